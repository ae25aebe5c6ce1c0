import Derived.Test.YtfghofifjnbicaaGreatDoorAhZed
import Derived.Test.YtfghofifjnbicaaGreatDoorAhRnBl
import Derived.Test.YtfghofifjnbicaaGreatDoorAhTyPl
import Derived.BigQuiet
import Derived.Deep.RegionHeld3
import Derived.Deep.QuietTactic
import Derived.Test.YtfghofifjnbicaaGreatDoorAhTyLs
set_option linter.unusedSimpArgs false
set_option linter.unusedVariables false
set_option maxRecDepth 100000
/- The contract of the document's reckoning of an expression's type: E2. (By tools/gen_tyrt.py.) -/
namespace Go.Proofs.YtfghofifjnbicaaGreatDoor
open Lib (hid)
open Go.RowKit
structure REnv (B:Nat) (p:Pr) (vars:List Pa) (v0 v1 v:Value) (w:World):Prop where
 hB:B≤w.heap.size
 ha:SlA B w v0 p.arrays
 hf:SlF B w v1 p.funcs
 hv:SlP B w v vars
theorem REnv.below {B:Nat} {p:Pr} {vars:List Pa} {v0 v1 v:Value} {w w':World} (h:REnv B p vars v0 v1 v w) (hb:Below B w w'):REnv B p vars v0 v1 v w' where
 hB:=Nat.le_trans h.hB hb.size
 ha:=h.ha.below hb Zr
 hf:=h.hf.below hb Zr
 hv:=h.hv.below hb Zr
theorem REnv.form {B:Nat} {p:Pr} {vars:List Pa} {v0 v1 v:Value} {w:World} (h:REnv B p vars v0 v1 v w):∃ A0 c0 A1 c1 A2 c2,v0=.slice A0 p.arrays.length c0∧v1=.slice A1 p.funcs.length c1∧v=.slice A2 vars.length c2:=by
 obtain⟨A0,c0,e0,_⟩:=h.ha.form;obtain⟨A1,c1,e1,_⟩:=h.hf.form;obtain⟨A2,c2,e2,_⟩:=h.hv.form;exact⟨A0,c0,A1,c1,A2,c2,e0,e1,e2⟩
def RTC (m:Nat):Prop:=∀ (B:Nat) (p:Pr) (vars:List Pa) (e:Ex) (r:Int × Int) (x v0 v1 v:Value) (w:World),yr e m=true→ui p→qI p vars e=r→REnv B p vars v0 v1 v w→vx B w e x→
 Calls Tryz.prog 83 #[.agg #[v0,v1],v,x] w fun e w'=>e=.returned (.tuple #[.int .i64 r.1,.int .i64 r.2])∧Below w.heap.size w w'
theorem RTC.call {m:Nat} (h:RTC m) {B:Nat} {p:Pr} {vars:List Pa} {e:Ex} {r:Int × Int} {x v0 v1 v:Value} {w:World} (h1:yr e m=true) (h2:ui p) (h3:qI p vars e=r) (h4:REnv B p vars v0 v1 v w) (h5:vx B w e x):
 Calls Tryz.prog 83 #[.agg #[v0,v1],v,x] w fun e w'=>e=.returned (.tuple #[.int .i64 r.1,.int .i64 r.2])∧Below w.heap.size w w':=h B p vars e r x v0 v1 v w h1 h2 h3 h4 h5
theorem jA (B:Nat) (p:Pr) (s:ByteArray) (z:Int) (hz:jY (qN p.funcs s)=z) (v0 v1:Value) (w:World) (hB:B≤w.heap.size) (ha:SlA B w v0 p.arrays) (hf:SlF B w v1 p.funcs):
 Calls Tryz.prog 64 #[.agg #[v0,v1],.string s] w fun e w'=>e=.returned (.int .i64 z)∧Below w.heap.size w w':=hz ▸ rplace_any B p s v0 v1 w hB ha hf
theorem kl (B:Nat) (p:Pr) (s:ByteArray) (z:Int) (hz:jY (qb p.arrays s)=z) (v0 v1:Value) (w:World) (hB:B≤w.heap.size) (ha:SlA B w v0 p.arrays) (hf:SlF B w v1 p.funcs):
 Calls Tryz.prog 63 #[.agg #[v0,v1],.string s] w fun e w'=>e=.returned (.int .i64 z)∧Below w.heap.size w w':=hz ▸ rarray_any B p s v0 v1 w hB ha hf
theorem jN (B:Nat) (l:List Pa) (s:ByteArray) (t:Int) (b:Bool) (ht:(z5 l s).getD 0=t) (hb:(z5 l s).isSome=b) (v:Value) (w:World) (hB:B≤w.heap.size) (hl:SlP B w v l):
 Calls Tryz.prog 30 #[v,.string s] w fun e w'=>e=.returned (.tuple #[.int .i64 t,.bool b])∧w=w':=ht ▸ hb ▸ rfind_any B l s v w hB hl
theorem bdN {B:Nat} {a w:World} (h:Below B a w) (n:Nat):Below B a (w.drewN n):=h.trans ⟨rfl,rfl,rfl,Nat.le_refl _,fun _ _=>rfl⟩
def OkN (a:Int) (l:List Int) (j:Nat):Prop:=∀ (i:Nat) t,i<j→l[i]? =some t→(a=0∨t=a)∧t=l.headD 0
theorem OkN.zero (a:Int) (l:List Int):OkN a l 0:=fun i t hi=>absurd hi (by omega)
theorem OkN.succ {a:Int} {l:List Int} {j:Nat} {t:Int} (h:OkN a l j) (ht:l[j]? =some t) (e:(a=0∨t=a)∧t=l.headD 0):OkN a l (j+1):=fun i x hi hx=>by
 by_cases hij:i=j
 · subst hij
   rw[ht]at hx;injection hx with hx;exact hx ▸ e
 · exact h i x (by omega) hx
theorem OkN.all {a:Int} {l:List Int} (h:OkN a l l.length):(l.all fun t=>decide ((a=0∨t=a)∧t=l.headD 0))=true:=by
 rw[List.all_eq_true];intro t ht;obtain⟨i,hi⟩:=List.getElem?_of_mem ht;exact decide_eq_true (h i t (List.getElem?_eq_some_iff.1 hi).1 hi)
theorem okN_not {a:Int} {l:List Int} {i:Nat} {t:Int} (hi:l[i]? =some t) (h:¬ ((a=0∨t=a)∧t=l.headD 0)):(l.all fun t=>decide ((a=0∨t=a)∧t=l.headD 0))=false:=by
 rw[List.all_eq_false];exact⟨t,List.mem_of_getElem? hi,by simpa using h⟩
theorem vL {p:Pr} {vars:List Pa} {k op:Int} {s:ByteArray} {l:List Int} (h:k=4∨k=5):qu p vars k op s l=if (l.all fun t=>decide ((qj op=0∨t=qj op)∧t=l.headD 0))=true then (x9 op,0) else (0,51):=by
 unfold qu;rw[if_neg (by omega),if_neg (by omega),if_neg (by omega),if_neg (by omega),if_pos h]
theorem nodeY_idx {p:Pr} {vars:List Pa} {op:Int} {s:ByteArray} {l:List Int}:qu p vars 6 op s l=if l.headD 0=1 then (1,0) else (0,51):=by
 unfold qu;rw[if_neg (by decide),if_neg (by decide),if_neg (by decide),if_pos rfl]
theorem ints_take {l:List Int} {t:Int}:l.map (Value.int .i64)++[Value.int .i64 t]=(l++[t]).map (Value.int .i64):=by simp
abbrev jW (k op n:Int) (s:ByteArray) (A:Option Addr) (m c:Nat):Obj:=.cells #[.int .i64 k,.int .i64 op,.int .i64 n,.string s,.slice A m c] 116
theorem jw {w:World} {g:Nat} {c0 c1 c2 c3 c4:Value} {T:TypeId} (h:w.heap[g]? =some (.cells #[c0,c1,c2,c3,c4] T (0,0))):w.cell? ⟨g,0,none⟩=some c0∧w.cell? ⟨g,1,none⟩=some c1∧w.cell? ⟨g,2,none⟩=some c2∧w.cell? ⟨g,3,none⟩=some c3∧w.cell? ⟨g,4,none⟩=some c4:=
 ⟨(Lib.cell_of_heap h 0).trans rfl,(Lib.cell_of_heap h 1).trans rfl,(Lib.cell_of_heap h 2).trans rfl,(Lib.cell_of_heap h 3).trans rfl,(Lib.cell_of_heap h 4).trans rfl⟩
set_option maxHeartbeats 64000000 in
theorem km (kk:Int) (m:Nat) (ih:RTC m) (B:Nat) (p:Pr) (vars:List Pa) (op n:Int) (s:ByteArray) (args:List Ex) (r:Int × Int) (va v0 v1 v:Value) (w:World) (hk:zh kk op n s args.length=true) (hm:zr args m=true) (hp:ui p) (hE:REnv B p vars v0 v1 v w) (hx:qw B w va args)
 (hkk:kk=4∨kk=5∨kk=1∨kk=2∨kk=3∨kk=8) (hN:jx p vars kk s=true) (hF:kd p kk s args.length=true) (hv3:kk=3→(z5 vars s).isSome=true) (hY:∀ l,(kk=4∨kk=5)∨qu p vars kk op s l=(if kk=2 then 2 else if kk=3 then (z5 vars s).getD 0 else 1,0)) (h8:args.length≤8) (hr:qI p vars (.mk kk op n s args)=r):
 Calls Tryz.prog 83 #[.agg #[v0,v1],v,.agg #[.int .i64 kk,.int .i64 op,.int .i64 n,.string s,va]] w fun e w'=>e=.returned (.tuple #[.int .i64 r.1,.int .i64 r.2])∧Below w.heap.size w w':=by
 have HPRE:=hid (show qI p vars (.mk kk op n s args)=(match zi p vars args with | .inl e=>(0,e) | .inr l=>qu p vars kk op s l) by rw[kr,hN,hF];rfl);obtain⟨A0,c0,A1,c1,A2,c2,rfl,rfl,rfl⟩:=hE.form;obtain⟨A,c,rfl,hn⟩:=hx.form;obtain⟨i0,hi,hz0,hz1,hz2⟩:=info_parts xP;have HI0:=hid (And.intro hi (And.intro hz0 (And.intro hz1 hz2)));obtain⟨z,hzz⟩:∃ z,jY (qN p.funcs s)=z:=⟨_,rfl⟩
 have HZ:=hid hzz;clear hzz;obtain⟨t0,htt⟩:∃ z,(z5 vars s).getD 0=z:=⟨_,rfl⟩
 have HT:=hid htt;clear htt;obtain⟨vb,hvb⟩:∃ z,(z5 vars s).isSome=z:=⟨_,rfl⟩
 have HVB:=hid hvb;clear hvb;have HV3:=hid (show kk=3→vb=true from fun e=>HVB.out.symm.trans (hv3 e));have HNY:=hid hY;clear hN hF hv3 hY;have HE:=hid hE;have HP:=hid hp;have HR:=hid hr;have HM:=hid hm;have HX:=hid hx;have HIH:=hid ih;have HW0:=hid (show Below w.heap.size w ((w.alloc (pgO A0 p.arrays.length c0 A1 p.funcs.length c1)).alloc (jW kk op n s A args.length c)) from(Zb.alloc Zr _).alloc (by simp) _);have HXP:=hid (show ((w.alloc (pgO A0 p.arrays.length c0 A1 p.funcs.length c1)).alloc (jW kk op n s A args.length c)).heap[w.heap.size]? =some (pgO A0 p.arrays.length c0 A1 p.funcs.length c1) from(Below.heap_alloc _ _ _ (by simp)).trans (heap_alloc_new w _));have HXX:=hid (show ((w.alloc (pgO A0 p.arrays.length c0 A1 p.funcs.length c1)).alloc (jW kk op n s A args.length c)).heap[w.heap.size+1]? =some (jW kk op n s A args.length c) from by simpa using heap_alloc_new (w.alloc (pgO A0 p.arrays.length c0 A1 p.funcs.length c1)) (jW kk op n s A args.length c));clear hE hp hk hx hr hi hz0 hz1 hz2 hm ih;rcases hkk with rfl | rfl | rfl | rfl | rfl | rfl
 all_goals (try (obtain rfl:=HV3.out rfl))
 all_goals
  go_enter Tryz.func83,Tryz.ntmps83
  go_wp2_with (first
   | (go_at_call 64
      have hE2:=HE.out.below (HW0.out.mono HE.out.hB)
      (with_reducible refine(jA B p s _ HZ.out _ _ _ hE2.hB hE2.ha hE2.hf).mono ?_)
      rintro e w1 ⟨rfl,hb⟩;have hx1:=(hb.block (w.heap.size+1) (by simp)).trans HXX.out;have hx0:=(hb.block w.heap.size (by simp;omega)).trans HXP.out;obtain⟨e0,e1,e2,e3,e4⟩:=jw hx1;obtain⟨⟨q0,q1⟩,qz⟩:=zE hx0;have hs1:w.heap.size+1<w1.heap.size:=zB hx1;have hs0:w.heap.size<w1.heap.size:=by omega
      have HX0:=hid hx0;have HX1:=hid hx1;have hbw1:Below w.heap.size w w1:=HW0.out.trans (hb.mono (by simp;omega));have HB1:=hid hbw1;have HE1:=hid (HE.out.below (hbw1.mono HE.out.hB))
      clear hb hE2 hx1 hx0 hbw1)
   | (go_at_call 30
      (with_reducible refine(jN B vars s _ _ HT.out HVB.out _ _ HE1.out.hB HE1.out.hv).mono ?_)
      rintro e w9 ⟨rfl,rfl⟩))
  go_quiet (fail)
  go_wp2_with (fail)
  go_loopw [11,12] (fun lv iv wr=>∃ (j:Nat) (l:List Int),j≤args.length∧iv=.int .i64 j∧l.length=j∧zi p vars (args.take j)=.inr l∧wr.ownsRow w1.heap.size 3 1 lv j (l.map (Value.int .i64))∧Below w1.heap.size w1 wr) (fun _ iv _=>args.length-(intOf iv).toNat)
  case atStart=>exact⟨0,[],Nat.zero_le _,rfl,rfl,by rw[List.take_zero,zi],World.ownsRow_nil _ _ _ _,bdN Zb _⟩
  case round=>
   obtain⟨j,l,hj,rfl,hll,hte,ho,hbw⟩:=hrel;obtain⟨A4,c4,rfl⟩:=qT ho;have hsz:=hbw.size;have hwr:Below w.heap.size w wr:=HB1.out.trans (hbw.mono (by omega));obtain⟨⟨r0,r1⟩,_⟩:=zE ((hbw.block w.heap.size (by omega)).trans HX0.out);obtain⟨d0,d1,d2,d3,d4⟩:=jw ((hbw.block (w.heap.size+1) (by omega)).trans HX1.out);have HBW:=hid hbw;have HWR:=hid hwr;have HO:=hid ho;have HTE:=hid hte;have HER:=hid (HE.out.below (hwr.mono HE.out.hB));have hss0:w.heap.size<wr.heap.size:=by omega
   have hss1:w.heap.size+1<wr.heap.size:=by omega
   clear hbw hwr ho hte;by_cases hlt:j<args.length
   · obtain⟨⟨k',op',n',s',as'⟩,he⟩:∃ e,args[j]? =some e:=⟨_,List.getElem?_eq_getElem hlt⟩
     obtain⟨g,o,v',rfl,hg,y0,y1,y2,y3,y4,hsl⟩:=(HX.out.below (HWR.out.mono HE.out.hB) Zr).cells he;obtain⟨A5,c5,rfl,_⟩:=hsl.form;have HEX:=hid (show vx B wr (.mk k' op' n' s' as') (.agg #[.int .i64 k',.int .i64 op',.int .i64 n',.string s',.slice A5 as'.length c5]) from⟨_,rfl,(HX.out.below (HWR.out.mono HE.out.hB) Zr).range he,hsl⟩);have hgs:g<wr.heap.size:=by have:=HE.out.hB;omega
     obtain⟨⟨t,f⟩,htf⟩:∃ r,qI p vars (.mk k' op' n' s' as')=r:=⟨_,rfl⟩
     have HTF:=hid htf;have HOK:=hid (qV HM.out he);have HEE:=hid he;clear hsl htf he;by_cases hf0:f=0
     all_goals (try subst hf0)
     all_goals
      go_wp2_with (fail)
      go_region_held3 (fun w'=>w'.cell? ⟨w.heap.size,0,none⟩=some (.slice A0 p.arrays.length c0)∧w'.cell? ⟨w.heap.size,1,none⟩=some (.slice A1 p.funcs.length c1)∧w'.cell? ⟨w.heap.size+1,4,none⟩=some (.slice (some ⟨g,o,none⟩) args.length c)∧w'.cell? ⟨g,o+j * 5,none⟩=some (.int .i64 k')∧w'.cell? ⟨g,o+j * 5+1,none⟩=some (.int .i64 op')∧w'.cell? ⟨g,o+j * 5+2,none⟩=some (.int .i64 n')∧w'.cell? ⟨g,o+j * 5+3,none⟩=some (.string s')∧w'.cell? ⟨g,o+j * 5+4,none⟩=some (.slice A5 as'.length c5))
       (first
         | (go_split_ands;refine⟨?_,?_,?_,?_,?_,?_,?_,?_⟩ <;> (first | (rw[hk5];assumption) | (rw[hx5];assumption) | (rw[hg5];assumption)))
         | go_keep)
       (first
         | (go_at_call 83
            (refine(HIH.out.call (w:=wr.drew) HOK.out HP.out HTF.out (HER.out.below Zb.drew) (HEX.out.below Zb.drew Zr)).mono ?_)
            rintro e w5 ⟨rfl,hb⟩;have hb5:Below wr.heap.size wr w5:=Zb.drew.trans hb;have hz5:wr.heap.size≤w5.heap.size:=hb5.size;have hk5:∀ k,w5.cell? ⟨w.heap.size,k,none⟩=wr.cell? ⟨w.heap.size,k,none⟩:=fun k=>hb5.cell (p:=⟨w.heap.size,k,none⟩) hss0
            have hx5:∀ k,w5.cell? ⟨w.heap.size+1,k,none⟩=wr.cell? ⟨w.heap.size+1,k,none⟩:=fun k=>hb5.cell (p:=⟨w.heap.size+1,k,none⟩) hss1
            have hg5:∀ k,w5.cell? ⟨g,k,none⟩=wr.cell? ⟨g,k,none⟩:=fun k=>hb5.cell (p:=⟨g,k,none⟩) hgs
            have HB5:=hid hb5;have HO5:=hid (zv (z7 HO.out fun k hk=>hb5.block k (zM HO.out k hk).2) (.cells #[.int .i64 t] 3));have HN5:=hid (ve w5 [.int .i64 t] 3)
            clear hb hb5))
     · go_wp2_with (at_builtin;refine wpList_append_own _ rfl (.tmp 97) (.tmp 99) _ rfl w1.heap.size 3 i0 _ 1 8 Tryz.underlying145 HI0.out.1 HI0.out.2.1 HI0.out.2.2.1 HI0.out.2.2.2 rfl (by omega) (.slice A4 j c4) j _ rfl (by exact HO5.out) ⟨w5.heap.size,0,none⟩ 1 1 [.int .i64 t] rfl rfl (by exact HN5.out) (by simp[Value.oneCell']) (by simp only[maxLen];omega) (by omega) (by simp;omega) ?_
                    intro v6 w6 hown6 hg6 _;have HG6:=hid hg6;have HO6:=hid hown6
                    clear hown6 hg6)
       go_roundw
       case rel=>
        refine⟨j+1,l++[t],by omega,by go_num,by simp[hll],?_,?_,?_⟩
        · have:=ya HTE.out HEE.out (by rw[HTF.out])
          rwa [HTF.out]at this
        · rw[←ints_take];exact HO6.out
        · exact((HBW.out.trans (HB5.out.mono (by omega))).alloc (by omega) _).grown HG6.out (by simp;omega) fun k hk=>(zM HO5.out k hk).1
       case measure=>simp[intOf];omega
     · go_wp2_with (fail)
       go_ret2
       have hrr:=HPRE.out;rw[vg HTE.out HEE.out (by rw[HTF.out];exact hf0),HTF.out]at hrr;rw[HR.out]at hrr;subst hrr;exact⟨rfl,HWR.out.trans (HB5.out.mono (by omega))⟩
   · have hjl:j=args.length:=by omega
     subst hjl;have HTA:=hid (show zi p vars args=.inr l by have:=HTE.out;rwa [List.take_of_length_le Zr]at this);clear HTE hj hlt
     first
      | (go_wp2_with (fail)
         go_ret2
         have hrr:=HPRE.out;rw[HTA.out,HR.out]at hrr;dsimp only at hrr;have h9:=(HNY.out l).resolve_left (by decide);simp[HT.out]at h9;rw[h9]at hrr;subst hrr
         exact⟨rfl,HWR.out⟩)
      | (go_wp2_with (go_at_call 96;(with_reducible refine(operand_any op _).mono ?_);rintro e w9 ⟨rfl,rfl⟩)
         obtain⟨a,haa⟩:∃ a,qj op=a:=⟨_,rfl⟩
         have HAA:=hid haa;have HOL:=hid (z7 (w':=wr) HO.out fun _ _=>rfl);rw[haa];clear haa
         go_loopw [18] (fun iv wr2=>∃ i nq:Nat,i≤args.length∧iv=.int .i64 i∧OkN a l i∧wr2=wr.drewN nq) (fun iv _=>args.length-(intOf iv).toNat)
         case atStart=>exact⟨0,0,Nat.zero_le _,rfl,OkN.zero _ _,rfl⟩
         case round=>
          obtain⟨i,nq,hi,rfl,hok,rfl⟩:=hrel;have HOKN:=hid hok;clear hok;by_cases hlt:i<args.length
          · obtain⟨x,hx⟩:∃ e,l[i]? =some e:=⟨_,List.getElem?_eq_getElem (by omega)⟩
            have hh:l[0]? =some (l.headD 0):=by
             cases l with
             | nil=>simp at hx
             | cons a r=>rfl
            obtain⟨y,hy⟩:∃ y,l.headD 0=y:=⟨_,rfl⟩
            rw[hy]at hh
            obtain⟨gl,c7,hA4,hgl⟩:∃ g c,Value.slice A4 args.length c4=.slice (some ⟨g,0,none⟩) args.length c∧g<wr.heap.size:=by
             rcases HO.out.2 with⟨_,h0⟩ | ⟨g,cap,cur,hv,_,h2,_⟩
             · omega
             · exact⟨g,cap,hv,zB h2⟩
            injection hA4 with hA4 _ hc4;subst hA4 hc4;have hx0:wr.cell? ⟨gl,i,none⟩=some (.int .i64 x):=(HO.out.cellAt i (by omega)).trans (by rw[List.getElem?_map,hx];rfl);have hx1:wr.cell? ⟨gl,0,none⟩=some (.int .i64 y):=(HO.out.cellAt 0 (by omega)).trans (by rw[List.getElem?_map,hh];rfl);have HXI:=hid hx;have HY:=hid hy;clear hx hh hy;by_cases h2:x=y
            · subst h2
              by_cases h0:a=0
              · subst h0
                go_wp2_with (fail)
                go_quiet (fail)
                go_wp2_with (fail);go_roundw
                case rel=>exact⟨i+1,_,by omega,by go_num,HOKN.out.succ HXI.out ⟨.inl rfl,HY.out.symm⟩,rfl⟩
                case measure=>simp[intOf];omega
              · by_cases h1:x=a
                · subst h1
                  have b0:(x != 0)=true:=by simp[h0]
                  go_wp2_with (fail)
                  go_quiet (fail)
                  go_wp2_with (fail);go_roundw
                  case rel=>exact⟨i+1,_,by omega,by go_num,HOKN.out.succ HXI.out ⟨.inr rfl,HY.out.symm⟩,rfl⟩
                  case measure=>simp[intOf];omega
                · have b0:(a != 0)=true:=by simp[h0]
                  have b1:(x != a)=true:=by simp[h1]
                  go_wp2_with (fail)
                  go_quiet (fail)
                  go_wp2_with (fail)
                  go_ret2
                  have hrr:=HPRE.out;rw[HTA.out,HR.out]at hrr;dsimp only at hrr;rw[vL (by decide),HAA.out,okN_not HXI.out (by rw[HY.out];intro hc;exact hc.1.elim h0 h1),if_neg (by decide)]at hrr;subst hrr;exact⟨rfl,bdN (bdN HWR.out _) _⟩
            · have b2:(x != y)=true:=by simp[h2]
              by_cases h0:a=0
              · subst h0
                go_wp2_with (fail)
                go_quiet (fail)
                go_wp2_with (fail)
                go_ret2
                have hrr:=HPRE.out;rw[HTA.out,HR.out]at hrr;dsimp only at hrr;rw[vL (by decide),HAA.out,okN_not HXI.out (by rw[HY.out];intro hc;exact h2 hc.2),if_neg (by decide)]at hrr;subst hrr;exact⟨rfl,bdN (bdN HWR.out _) _⟩
              · by_cases h1:x=a
                · subst h1
                  have b0:(x != 0)=true:=by simp[h0]
                  go_wp2_with (fail)
                  go_quiet (fail)
                  go_wp2_with (fail)
                  go_ret2
                  have hrr:=HPRE.out;rw[HTA.out,HR.out]at hrr;dsimp only at hrr;rw[vL (by decide),HAA.out,okN_not HXI.out (by rw[HY.out];intro hc;exact h2 hc.2),if_neg (by decide)]at hrr;subst hrr;exact⟨rfl,bdN (bdN HWR.out _) _⟩
                · have b0:(a != 0)=true:=by simp[h0]
                  have b1:(x != a)=true:=by simp[h1]
                  go_wp2_with (fail)
                  go_quiet (fail)
                  go_wp2_with (fail)
                  go_ret2
                  have hrr:=HPRE.out;rw[HTA.out,HR.out]at hrr;dsimp only at hrr;rw[vL (by decide),HAA.out,okN_not HXI.out (by rw[HY.out];intro hc;exact h2 hc.2),if_neg (by decide)]at hrr;subst hrr;exact⟨rfl,bdN (bdN HWR.out _) _⟩
          · have hil:i=args.length:=by omega
            subst hil;go_wp2_with (fail)
            go_ret2
            have hrr:=HPRE.out;rw[HTA.out,HR.out]at hrr;dsimp only at hrr;rw[vL (by decide),HAA.out,OkN.all (by rw[hll];exact HOKN.out),if_pos rfl]at hrr;subst hrr
            exact⟨rfl,bdN HWR.out _⟩)
set_option maxHeartbeats 1600000 in
theorem rtype_index (m:Nat) (ih:RTC m) (B:Nat) (p:Pr) (vars:List Pa) (op n:Int) (s:ByteArray) (args:List Ex) (r:Int × Int) (va v0 v1 v:Value) (w:World) (hk:zh 6 op n s args.length=true) (hm:zr args m=true) (hp:ui p) (hE:REnv B p vars v0 v1 v w) (hx:qw B w va args)
 (q:Nat) (hq:qb p.arrays s=some q) (h1:args.length=1) (h8:args.length≤8) (hr:qI p vars (.mk 6 op n s args)=r):
 Calls Tryz.prog 83 #[.agg #[v0,v1],v,.agg #[.int .i64 6,.int .i64 op,.int .i64 n,.string s,va]] w fun e w'=>e=.returned (.tuple #[.int .i64 r.1,.int .i64 r.2])∧Below w.heap.size w w':=by
 have HPRE:=hid (show qI p vars (.mk 6 op n s args)=(match zi p vars args with | .inl e=>(0,e) | .inr l=>qu p vars 6 op s l) by rw[kr,show jx p vars 6 s=true from by simp[jx,hq],show kd p 6 s args.length=true from rfl];rfl);obtain⟨A0,c0,A1,c1,A2,c2,rfl,rfl,rfl⟩:=hE.form;obtain⟨A,c,rfl,hn⟩:=hx.form;obtain⟨i0,hi,hz0,hz1,hz2⟩:=info_parts xP;have HI0:=hid (And.intro hi (And.intro hz0 (And.intro hz1 hz2)));obtain⟨z,hzz⟩:∃ z,jY (qN p.funcs s)=z:=⟨_,rfl⟩
 have HZ:=hid hzz;clear hzz;obtain⟨t0,htt⟩:∃ z,(z5 vars s).getD 0=z:=⟨_,rfl⟩
 have HT:=hid htt;clear htt;obtain⟨vb,hvb⟩:∃ z,(z5 vars s).isSome=z:=⟨_,rfl⟩
 have HVB:=hid hvb;clear hvb;have HAZ:=hid (show jY (qb p.arrays s)=(q:Int) by rw[hq];rfl);have H1:=hid h1;clear hq h1;have HE:=hid hE;have HP:=hid hp;have HR:=hid hr;have HM:=hid hm;have HX:=hid hx;have HIH:=hid ih;have HW0:=hid (show Below w.heap.size w ((w.alloc (pgO A0 p.arrays.length c0 A1 p.funcs.length c1)).alloc (jW 6 op n s A args.length c)) from(Zb.alloc Zr _).alloc (by simp) _);have HXP:=hid (show ((w.alloc (pgO A0 p.arrays.length c0 A1 p.funcs.length c1)).alloc (jW 6 op n s A args.length c)).heap[w.heap.size]? =some (pgO A0 p.arrays.length c0 A1 p.funcs.length c1) from(Below.heap_alloc _ _ _ (by simp)).trans (heap_alloc_new w _));have HXX:=hid (show ((w.alloc (pgO A0 p.arrays.length c0 A1 p.funcs.length c1)).alloc (jW 6 op n s A args.length c)).heap[w.heap.size+1]? =some (jW 6 op n s A args.length c) from by simpa using heap_alloc_new (w.alloc (pgO A0 p.arrays.length c0 A1 p.funcs.length c1)) (jW 6 op n s A args.length c));clear hE hp hk hx hr hi hz0 hz1 hz2 hm ih;go_enter Tryz.func83,Tryz.ntmps83
 go_wp2_with (first
  | (go_at_call 64
     have hE2:=HE.out.below (HW0.out.mono HE.out.hB)
     (with_reducible refine(jA B p s _ HZ.out _ _ _ hE2.hB hE2.ha hE2.hf).mono ?_)
     rintro e w1 ⟨rfl,hb⟩;have hx1:=(hb.block (w.heap.size+1) (by simp)).trans HXX.out;have hx0:=(hb.block w.heap.size (by simp;omega)).trans HXP.out;obtain⟨e0,e1,e2,e3,e4⟩:=jw hx1;obtain⟨⟨q0,q1⟩,qz⟩:=zE hx0;have hs1:w.heap.size+1<w1.heap.size:=zB hx1;have hs0:w.heap.size<w1.heap.size:=by omega
     have HX0:=hid hx0;have HX1:=hid hx1;have hbw1:Below w.heap.size w w1:=HW0.out.trans (hb.mono (by simp;omega));have HB1:=hid hbw1;have HE1:=hid (HE.out.below (hbw1.mono HE.out.hB))
     clear hb hE2 hx1 hx0 hbw1)
  | (go_at_call 30
     (with_reducible refine(jN B vars s _ _ HT.out HVB.out _ _ HE1.out.hB HE1.out.hv).mono ?_)
     rintro e w9 ⟨rfl,rfl⟩)
  | (go_at_call 63
     (with_reducible refine(kl B p s _ HAZ.out _ _ _ HE1.out.hB HE1.out.ha HE1.out.hf).mono ?_)
     rintro e w3 ⟨rfl,hb⟩;have hx1:=(hb.block (w.heap.size+1) hs1).trans HX1.out;have hx0:=(hb.block w.heap.size hs0).trans HX0.out;obtain⟨e0,e1,e2,e3,e4⟩:=jw hx1;obtain⟨⟨q0,q1⟩,qz⟩:=zE hx0;have hs1:w.heap.size+1<w3.heap.size:=zB hx1;have hs0:w.heap.size<w3.heap.size:=by omega
     have HX0:=hid hx0;have HX1:=hid hx1;have hbw1:Below w.heap.size w w3:=HB1.out.trans (hb.mono (by omega));have HB1:=hid hbw1;have HE1:=hid (HE.out.below (hbw1.mono HE.out.hB))
     clear hb hx1 hx0 hbw1))
 go_quiet (fail)
 go_wp2_with (fail)
 go_loopw [11,12] (fun lv iv wr=>∃ (j:Nat) (l:List Int),j≤args.length∧iv=.int .i64 j∧l.length=j∧zi p vars (args.take j)=.inr l∧wr.ownsRow w3.heap.size 3 1 lv j (l.map (Value.int .i64))∧Below w3.heap.size w3 wr) (fun _ iv _=>args.length-(intOf iv).toNat)
 case atStart=>exact⟨0,[],Nat.zero_le _,rfl,rfl,by rw[List.take_zero,zi],World.ownsRow_nil _ _ _ _,bdN Zb _⟩
 case round=>
  obtain⟨j,l,hj,rfl,hll,hte,ho,hbw⟩:=hrel;obtain⟨A4,c4,rfl⟩:=qT ho;have hsz:=hbw.size;have hwr:Below w.heap.size w wr:=HB1.out.trans (hbw.mono (by omega));obtain⟨⟨r0,r1⟩,_⟩:=zE ((hbw.block w.heap.size (by omega)).trans HX0.out);obtain⟨d0,d1,d2,d3,d4⟩:=jw ((hbw.block (w.heap.size+1) (by omega)).trans HX1.out);have HBW:=hid hbw;have HWR:=hid hwr;have HO:=hid ho;have HTE:=hid hte;have HER:=hid (HE.out.below (hwr.mono HE.out.hB));have hss0:w.heap.size<wr.heap.size:=by omega
  have hss1:w.heap.size+1<wr.heap.size:=by omega
  clear hbw hwr ho hte;by_cases hlt:j<args.length
  · obtain⟨⟨k',op',n',s',as'⟩,he⟩:∃ e,args[j]? =some e:=⟨_,List.getElem?_eq_getElem hlt⟩
    obtain⟨g,o,v',rfl,hg,y0,y1,y2,y3,y4,hsl⟩:=(HX.out.below (HWR.out.mono HE.out.hB) Zr).cells he;obtain⟨A5,c5,rfl,_⟩:=hsl.form;have HEX:=hid (show vx B wr (.mk k' op' n' s' as') (.agg #[.int .i64 k',.int .i64 op',.int .i64 n',.string s',.slice A5 as'.length c5]) from⟨_,rfl,(HX.out.below (HWR.out.mono HE.out.hB) Zr).range he,hsl⟩);have hgs:g<wr.heap.size:=by have:=HE.out.hB;omega
    obtain⟨⟨t,f⟩,htf⟩:∃ r,qI p vars (.mk k' op' n' s' as')=r:=⟨_,rfl⟩
    have HTF:=hid htf;have HOK:=hid (qV HM.out he);have HEE:=hid he;clear hsl htf he;by_cases hf0:f=0
    all_goals (try subst hf0)
    all_goals
     go_wp2_with (fail)
     go_region_held3 (fun w'=>w'.cell? ⟨w.heap.size,0,none⟩=some (.slice A0 p.arrays.length c0)∧w'.cell? ⟨w.heap.size,1,none⟩=some (.slice A1 p.funcs.length c1)∧w'.cell? ⟨w.heap.size+1,4,none⟩=some (.slice (some ⟨g,o,none⟩) args.length c)∧w'.cell? ⟨g,o+j * 5,none⟩=some (.int .i64 k')∧w'.cell? ⟨g,o+j * 5+1,none⟩=some (.int .i64 op')∧w'.cell? ⟨g,o+j * 5+2,none⟩=some (.int .i64 n')∧w'.cell? ⟨g,o+j * 5+3,none⟩=some (.string s')∧w'.cell? ⟨g,o+j * 5+4,none⟩=some (.slice A5 as'.length c5))
      (first
        | (go_split_ands;refine⟨?_,?_,?_,?_,?_,?_,?_,?_⟩ <;> (first | (rw[hk5];assumption) | (rw[hx5];assumption) | (rw[hg5];assumption)))
        | go_keep)
      (first
        | (go_at_call 83
           (refine(HIH.out.call (w:=wr.drew) HOK.out HP.out HTF.out (HER.out.below Zb.drew) (HEX.out.below Zb.drew Zr)).mono ?_)
           rintro e w5 ⟨rfl,hb⟩;have hb5:Below wr.heap.size wr w5:=Zb.drew.trans hb;have hz5:wr.heap.size≤w5.heap.size:=hb5.size;have hk5:∀ k,w5.cell? ⟨w.heap.size,k,none⟩=wr.cell? ⟨w.heap.size,k,none⟩:=fun k=>hb5.cell (p:=⟨w.heap.size,k,none⟩) hss0
           have hx5:∀ k,w5.cell? ⟨w.heap.size+1,k,none⟩=wr.cell? ⟨w.heap.size+1,k,none⟩:=fun k=>hb5.cell (p:=⟨w.heap.size+1,k,none⟩) hss1
           have hg5:∀ k,w5.cell? ⟨g,k,none⟩=wr.cell? ⟨g,k,none⟩:=fun k=>hb5.cell (p:=⟨g,k,none⟩) hgs
           have HB5:=hid hb5;have HO5:=hid (zv (z7 HO.out fun k hk=>hb5.block k (zM HO.out k hk).2) (.cells #[.int .i64 t] 3));have HN5:=hid (ve w5 [.int .i64 t] 3)
           clear hb hb5))
    · go_wp2_with (at_builtin;refine wpList_append_own _ rfl (.tmp 97) (.tmp 99) _ rfl w3.heap.size 3 i0 _ 1 8 Tryz.underlying145 HI0.out.1 HI0.out.2.1 HI0.out.2.2.1 HI0.out.2.2.2 rfl (by omega) (.slice A4 j c4) j _ rfl (by exact HO5.out) ⟨w5.heap.size,0,none⟩ 1 1 [.int .i64 t] rfl rfl (by exact HN5.out) (by simp[Value.oneCell']) (by simp only[maxLen];omega) (by omega) (by simp;omega) ?_
                   intro v6 w6 hown6 hg6 _;have HG6:=hid hg6;have HO6:=hid hown6
                   clear hown6 hg6)
      go_roundw
      case rel=>
       refine⟨j+1,l++[t],by omega,by go_num,by simp[hll],?_,?_,?_⟩
       · have:=ya HTE.out HEE.out (by rw[HTF.out])
         rwa [HTF.out]at this
       · rw[←ints_take];exact HO6.out
       · exact((HBW.out.trans (HB5.out.mono (by omega))).alloc (by omega) _).grown HG6.out (by simp;omega) fun k hk=>(zM HO5.out k hk).1
      case measure=>simp[intOf];omega
    · go_wp2_with (fail)
      go_ret2
      have hrr:=HPRE.out;rw[vg HTE.out HEE.out (by rw[HTF.out];exact hf0),HTF.out]at hrr;rw[HR.out]at hrr;subst hrr;exact⟨rfl,HWR.out.trans (HB5.out.mono (by omega))⟩
  · have hjl:j=args.length:=by omega
    subst hjl;have HTA:=hid (show zi p vars args=.inr l by have:=HTE.out;rwa [List.take_of_length_le Zr]at this);clear HTE hj hlt;have h1:=H1.out
    obtain⟨gl,c7,hA4,hgl⟩:∃ g c,Value.slice A4 args.length c4=.slice (some ⟨g,0,none⟩) args.length c∧g<wr.heap.size:=by
     rcases HO.out.2 with⟨_,h0⟩ | ⟨g,cap,cur,hv,_,h2,_⟩
     · omega
     · exact⟨g,cap,hv,zB h2⟩
    injection hA4 with hA4 _ hc4;subst hA4 hc4;obtain⟨x,hx⟩:∃ e,l[0]? =some e:=⟨_,List.getElem?_eq_getElem (by omega)⟩
    have hx0:wr.cell? ⟨gl,0,none⟩=some (.int .i64 x):=(HO.out.cellAt 0 (by omega)).trans (by rw[List.getElem?_map,hx];rfl)
    have hlx:l.headD 0=x:=by
     cases l with
     | nil=>simp at hx
     | cons a r=>simpa using hx
    have HLX:=hid hlx;have hpos:0<args.length:=by omega
    clear hx hlx h1;by_cases h2:x=1
    · subst h2
      go_wp2_with (fail)
      go_ret2
      have hrr:=HPRE.out;rw[HTA.out,HR.out]at hrr;dsimp only at hrr;rw[show qu p vars 6 op s l=(1,0) from by rw[nodeY_idx,HLX.out];rfl]at hrr;subst hrr;exact⟨rfl,HWR.out⟩
    · go_wp2_with (fail)
      go_ret2
      have hrr:=HPRE.out;rw[HTA.out,HR.out]at hrr;dsimp only at hrr;rw[show qu p vars 6 op s l=(0,51) from by rw[nodeY_idx,HLX.out,if_neg h2]]at hrr;subst hrr;exact⟨rfl,HWR.out⟩
set_option maxHeartbeats 1600000 in
theorem rtype_var_no (m:Nat) (ih:RTC m) (B:Nat) (p:Pr) (vars:List Pa) (op n:Int) (s:ByteArray) (args:List Ex) (r:Int × Int) (va v0 v1 v:Value) (w:World) (hk:zh 3 op n s args.length=true) (hm:zr args m=true) (hp:ui p) (hE:REnv B p vars v0 v1 v w) (hx:qw B w va args)
 (hvt:z5 vars s=none) (h8:args.length≤8) (hr:qI p vars (.mk 3 op n s args)=r):
 Calls Tryz.prog 83 #[.agg #[v0,v1],v,.agg #[.int .i64 3,.int .i64 op,.int .i64 n,.string s,va]] w fun e w'=>e=.returned (.tuple #[.int .i64 r.1,.int .i64 r.2])∧Below w.heap.size w w':=by
 have HPRE:=hid (show qI p vars (.mk 3 op n s args)=(0,50) by rw[kr,show jx p vars 3 s=false from by simp[jx,hvt]];rfl);obtain⟨A0,c0,A1,c1,A2,c2,rfl,rfl,rfl⟩:=hE.form;obtain⟨A,c,rfl,hn⟩:=hx.form;obtain⟨i0,hi,hz0,hz1,hz2⟩:=info_parts xP;have HI0:=hid (And.intro hi (And.intro hz0 (And.intro hz1 hz2)));obtain⟨z,hzz⟩:∃ z,jY (qN p.funcs s)=z:=⟨_,rfl⟩
 have HZ:=hid hzz;clear hzz;have HT:=hid (show (z5 vars s).getD 0=0 by rw[hvt];rfl);have HVB:=hid (show (z5 vars s).isSome=false by rw[hvt];rfl);clear hvt;have HE:=hid hE;have HP:=hid hp;have HR:=hid hr;have HM:=hid hm;have HX:=hid hx;have HIH:=hid ih;have HW0:=hid (show Below w.heap.size w ((w.alloc (pgO A0 p.arrays.length c0 A1 p.funcs.length c1)).alloc (jW 3 op n s A args.length c)) from(Zb.alloc Zr _).alloc (by simp) _);have HXP:=hid (show ((w.alloc (pgO A0 p.arrays.length c0 A1 p.funcs.length c1)).alloc (jW 3 op n s A args.length c)).heap[w.heap.size]? =some (pgO A0 p.arrays.length c0 A1 p.funcs.length c1) from(Below.heap_alloc _ _ _ (by simp)).trans (heap_alloc_new w _));have HXX:=hid (show ((w.alloc (pgO A0 p.arrays.length c0 A1 p.funcs.length c1)).alloc (jW 3 op n s A args.length c)).heap[w.heap.size+1]? =some (jW 3 op n s A args.length c) from by simpa using heap_alloc_new (w.alloc (pgO A0 p.arrays.length c0 A1 p.funcs.length c1)) (jW 3 op n s A args.length c));clear hE hp hk hx hr hi hz0 hz1 hz2 hm ih;go_enter Tryz.func83,Tryz.ntmps83
 go_wp2_with (first
  | (go_at_call 64
     have hE2:=HE.out.below (HW0.out.mono HE.out.hB)
     (with_reducible refine(jA B p s _ HZ.out _ _ _ hE2.hB hE2.ha hE2.hf).mono ?_)
     rintro e w1 ⟨rfl,hb⟩;have hx1:=(hb.block (w.heap.size+1) (by simp)).trans HXX.out;have hx0:=(hb.block w.heap.size (by simp;omega)).trans HXP.out;obtain⟨e0,e1,e2,e3,e4⟩:=jw hx1;obtain⟨⟨q0,q1⟩,qz⟩:=zE hx0;have hs1:w.heap.size+1<w1.heap.size:=zB hx1;have hs0:w.heap.size<w1.heap.size:=by omega
     have HX0:=hid hx0;have HX1:=hid hx1;have hbw1:Below w.heap.size w w1:=HW0.out.trans (hb.mono (by simp;omega));have HB1:=hid hbw1;have HE1:=hid (HE.out.below (hbw1.mono HE.out.hB))
     clear hb hE2 hx1 hx0 hbw1)
  | (go_at_call 30
     (with_reducible refine(jN B vars s _ _ HT.out HVB.out _ _ HE1.out.hB HE1.out.hv).mono ?_)
     rintro e w9 ⟨rfl,rfl⟩))
 go_ret2
 have hrr:=HPRE.out;rw[HR.out]at hrr;subst hrr;exact⟨rfl,HB1.out⟩
set_option maxHeartbeats 1600000 in
theorem rtype_index_no (m:Nat) (ih:RTC m) (B:Nat) (p:Pr) (vars:List Pa) (op n:Int) (s:ByteArray) (args:List Ex) (r:Int × Int) (va v0 v1 v:Value) (w:World) (hk:zh 6 op n s args.length=true) (hm:zr args m=true) (hp:ui p) (hE:REnv B p vars v0 v1 v w) (hx:qw B w va args)
 (hq:qb p.arrays s=none) (h8:args.length≤8) (hr:qI p vars (.mk 6 op n s args)=r):
 Calls Tryz.prog 83 #[.agg #[v0,v1],v,.agg #[.int .i64 6,.int .i64 op,.int .i64 n,.string s,va]] w fun e w'=>e=.returned (.tuple #[.int .i64 r.1,.int .i64 r.2])∧Below w.heap.size w w':=by
 have HPRE:=hid (show qI p vars (.mk 6 op n s args)=(0,50) by rw[kr,show jx p vars 6 s=false from by simp[jx,hq]];rfl);obtain⟨A0,c0,A1,c1,A2,c2,rfl,rfl,rfl⟩:=hE.form;obtain⟨A,c,rfl,hn⟩:=hx.form;obtain⟨i0,hi,hz0,hz1,hz2⟩:=info_parts xP;have HI0:=hid (And.intro hi (And.intro hz0 (And.intro hz1 hz2)));obtain⟨z,hzz⟩:∃ z,jY (qN p.funcs s)=z:=⟨_,rfl⟩
 have HZ:=hid hzz;clear hzz;obtain⟨t0,htt⟩:∃ z,(z5 vars s).getD 0=z:=⟨_,rfl⟩
 have HT:=hid htt;clear htt;obtain⟨vb,hvb⟩:∃ z,(z5 vars s).isSome=z:=⟨_,rfl⟩
 have HVB:=hid hvb;clear hvb;have HAZ:=hid (show jY (qb p.arrays s)= -1 by rw[hq];rfl);clear hq;have HE:=hid hE;have HP:=hid hp;have HR:=hid hr;have HM:=hid hm;have HX:=hid hx;have HIH:=hid ih;have HW0:=hid (show Below w.heap.size w ((w.alloc (pgO A0 p.arrays.length c0 A1 p.funcs.length c1)).alloc (jW 6 op n s A args.length c)) from(Zb.alloc Zr _).alloc (by simp) _);have HXP:=hid (show ((w.alloc (pgO A0 p.arrays.length c0 A1 p.funcs.length c1)).alloc (jW 6 op n s A args.length c)).heap[w.heap.size]? =some (pgO A0 p.arrays.length c0 A1 p.funcs.length c1) from(Below.heap_alloc _ _ _ (by simp)).trans (heap_alloc_new w _));have HXX:=hid (show ((w.alloc (pgO A0 p.arrays.length c0 A1 p.funcs.length c1)).alloc (jW 6 op n s A args.length c)).heap[w.heap.size+1]? =some (jW 6 op n s A args.length c) from by simpa using heap_alloc_new (w.alloc (pgO A0 p.arrays.length c0 A1 p.funcs.length c1)) (jW 6 op n s A args.length c));clear hE hp hk hx hr hi hz0 hz1 hz2 hm ih;go_enter Tryz.func83,Tryz.ntmps83
 go_wp2_with (first
  | (go_at_call 64
     have hE2:=HE.out.below (HW0.out.mono HE.out.hB)
     (with_reducible refine(jA B p s _ HZ.out _ _ _ hE2.hB hE2.ha hE2.hf).mono ?_)
     rintro e w1 ⟨rfl,hb⟩;have hx1:=(hb.block (w.heap.size+1) (by simp)).trans HXX.out;have hx0:=(hb.block w.heap.size (by simp;omega)).trans HXP.out;obtain⟨e0,e1,e2,e3,e4⟩:=jw hx1;obtain⟨⟨q0,q1⟩,qz⟩:=zE hx0;have hs1:w.heap.size+1<w1.heap.size:=zB hx1;have hs0:w.heap.size<w1.heap.size:=by omega
     have HX0:=hid hx0;have HX1:=hid hx1;have hbw1:Below w.heap.size w w1:=HW0.out.trans (hb.mono (by simp;omega));have HB1:=hid hbw1;have HE1:=hid (HE.out.below (hbw1.mono HE.out.hB))
     clear hb hE2 hx1 hx0 hbw1)
  | (go_at_call 30
     (with_reducible refine(jN B vars s _ _ HT.out HVB.out _ _ HE1.out.hB HE1.out.hv).mono ?_)
     rintro e w9 ⟨rfl,rfl⟩)
  | (go_at_call 63
     (with_reducible refine(kl B p s _ HAZ.out _ _ _ HE1.out.hB HE1.out.ha HE1.out.hf).mono ?_)
     rintro e w3 ⟨rfl,hb⟩;have hx1:=(hb.block (w.heap.size+1) hs1).trans HX1.out;have hx0:=(hb.block w.heap.size hs0).trans HX0.out;obtain⟨e0,e1,e2,e3,e4⟩:=jw hx1;obtain⟨⟨q0,q1⟩,qz⟩:=zE hx0;have hs1:w.heap.size+1<w3.heap.size:=zB hx1;have hs0:w.heap.size<w3.heap.size:=by omega
     have HX0:=hid hx0;have HX1:=hid hx1;have hbw1:Below w.heap.size w w3:=HB1.out.trans (hb.mono (by omega));have HB1:=hid hbw1;have HE1:=hid (HE.out.below (hbw1.mono HE.out.hB))
     clear hb hx1 hx0 hbw1))
 go_ret2
 have hrr:=HPRE.out;rw[HR.out]at hrr;subst hrr;exact⟨rfl,HB1.out⟩
set_option maxHeartbeats 1600000 in
theorem rtype_call_no (m:Nat) (ih:RTC m) (B:Nat) (p:Pr) (vars:List Pa) (op n:Int) (s:ByteArray) (args:List Ex) (r:Int × Int) (va v0 v1 v:Value) (w:World) (hk:zh 7 op n s args.length=true) (hm:zr args m=true) (hp:ui p) (hE:REnv B p vars v0 v1 v w) (hx:qw B w va args)
 (hq:qN p.funcs s=none) (h8:args.length≤8) (hr:qI p vars (.mk 7 op n s args)=r):
 Calls Tryz.prog 83 #[.agg #[v0,v1],v,.agg #[.int .i64 7,.int .i64 op,.int .i64 n,.string s,va]] w fun e w'=>e=.returned (.tuple #[.int .i64 r.1,.int .i64 r.2])∧Below w.heap.size w w':=by
 have HPRE:=hid (show qI p vars (.mk 7 op n s args)=(0,50) by rw[kr,show jx p vars 7 s=false from by simp[jx,hq]];rfl);obtain⟨A0,c0,A1,c1,A2,c2,rfl,rfl,rfl⟩:=hE.form;obtain⟨A,c,rfl,hn⟩:=hx.form;obtain⟨i0,hi,hz0,hz1,hz2⟩:=info_parts xP;have HI0:=hid (And.intro hi (And.intro hz0 (And.intro hz1 hz2)));have HZ:=hid (show jY (qN p.funcs s)= -1 by rw[hq];rfl);clear hq;obtain⟨t0,htt⟩:∃ z,(z5 vars s).getD 0=z:=⟨_,rfl⟩
 have HT:=hid htt;clear htt;obtain⟨vb,hvb⟩:∃ z,(z5 vars s).isSome=z:=⟨_,rfl⟩
 have HVB:=hid hvb;clear hvb;have HE:=hid hE;have HP:=hid hp;have HR:=hid hr;have HM:=hid hm;have HX:=hid hx;have HIH:=hid ih;have HW0:=hid (show Below w.heap.size w ((w.alloc (pgO A0 p.arrays.length c0 A1 p.funcs.length c1)).alloc (jW 7 op n s A args.length c)) from(Zb.alloc Zr _).alloc (by simp) _);have HXP:=hid (show ((w.alloc (pgO A0 p.arrays.length c0 A1 p.funcs.length c1)).alloc (jW 7 op n s A args.length c)).heap[w.heap.size]? =some (pgO A0 p.arrays.length c0 A1 p.funcs.length c1) from(Below.heap_alloc _ _ _ (by simp)).trans (heap_alloc_new w _));have HXX:=hid (show ((w.alloc (pgO A0 p.arrays.length c0 A1 p.funcs.length c1)).alloc (jW 7 op n s A args.length c)).heap[w.heap.size+1]? =some (jW 7 op n s A args.length c) from by simpa using heap_alloc_new (w.alloc (pgO A0 p.arrays.length c0 A1 p.funcs.length c1)) (jW 7 op n s A args.length c));clear hE hp hk hx hr hi hz0 hz1 hz2 hm ih;go_enter Tryz.func83,Tryz.ntmps83
 go_wp2_with (first
  | (go_at_call 64
     have hE2:=HE.out.below (HW0.out.mono HE.out.hB)
     (with_reducible refine(jA B p s _ HZ.out _ _ _ hE2.hB hE2.ha hE2.hf).mono ?_)
     rintro e w1 ⟨rfl,hb⟩;have hx1:=(hb.block (w.heap.size+1) (by simp)).trans HXX.out;have hx0:=(hb.block w.heap.size (by simp;omega)).trans HXP.out;obtain⟨e0,e1,e2,e3,e4⟩:=jw hx1;obtain⟨⟨q0,q1⟩,qz⟩:=zE hx0;have hs1:w.heap.size+1<w1.heap.size:=zB hx1;have hs0:w.heap.size<w1.heap.size:=by omega
     have HX0:=hid hx0;have HX1:=hid hx1;have hbw1:Below w.heap.size w w1:=HW0.out.trans (hb.mono (by simp;omega));have HB1:=hid hbw1;have HE1:=hid (HE.out.below (hbw1.mono HE.out.hB))
     clear hb hE2 hx1 hx0 hbw1)
  | (go_at_call 30
     (with_reducible refine(jN B vars s _ _ HT.out HVB.out _ _ HE1.out.hB HE1.out.hv).mono ?_)
     rintro e w9 ⟨rfl,rfl⟩))
 go_ret2
 have hrr:=HPRE.out;rw[HR.out]at hrr;subst hrr;exact⟨rfl,HB1.out⟩
set_option maxHeartbeats 1600000 in
theorem rtype_call_count (m:Nat) (ih:RTC m) (B:Nat) (p:Pr) (vars:List Pa) (op n:Int) (s:ByteArray) (args:List Ex) (r:Int × Int) (va v0 v1 v:Value) (w:World) (hk:zh 7 op n s args.length=true) (hm:zr args m=true) (hp:ui p) (hE:REnv B p vars v0 v1 v w) (hx:qw B w va args)
 (q:Nat) (f:Fu) (hq:qN p.funcs s=some q) (hf:p.funcs[q]? =some f) (hc:args.length≠f.params.length) (h8:args.length≤8) (hr:qI p vars (.mk 7 op n s args)=r):
 Calls Tryz.prog 83 #[.agg #[v0,v1],v,.agg #[.int .i64 7,.int .i64 op,.int .i64 n,.string s,va]] w fun e w'=>e=.returned (.tuple #[.int .i64 r.1,.int .i64 r.2])∧Below w.heap.size w w':=by
 have HPRE:=hid (show qI p vars (.mk 7 op n s args)=(0,51) by rw[kr,show jx p vars 7 s=true by simp[jx,hq],show kd p 7 s args.length=false by simp[kd,xK,hq,hf,hc]];rfl);have hcz:((args.length:Int) != (f.params.length:Int))=true:=by simp;omega
 clear hc;obtain⟨A0,c0,A1,c1,A2,c2,rfl,rfl,rfl⟩:=hE.form;obtain⟨A,c,rfl,hn⟩:=hx.form;obtain⟨i0,hi,hz0,hz1,hz2⟩:=info_parts xP;have HI0:=hid (And.intro hi (And.intro hz0 (And.intro hz1 hz2)));have HZ:=hid (show jY (qN p.funcs s)=(q:Int) by rw[hq];rfl);have HKF:=hid hf;have hql:q<p.funcs.length:=(List.getElem?_eq_some_iff.1 hf).1;clear hq hf;obtain⟨t0,htt⟩:∃ z,(z5 vars s).getD 0=z:=⟨_,rfl⟩
 have HT:=hid htt;clear htt;obtain⟨vb,hvb⟩:∃ z,(z5 vars s).isSome=z:=⟨_,rfl⟩
 have HVB:=hid hvb;clear hvb;have HE:=hid hE;have HP:=hid hp;have HR:=hid hr;have HM:=hid hm;have HX:=hid hx;have HIH:=hid ih;have HW0:=hid (show Below w.heap.size w ((w.alloc (pgO A0 p.arrays.length c0 A1 p.funcs.length c1)).alloc (jW 7 op n s A args.length c)) from(Zb.alloc Zr _).alloc (by simp) _);have HXP:=hid (show ((w.alloc (pgO A0 p.arrays.length c0 A1 p.funcs.length c1)).alloc (jW 7 op n s A args.length c)).heap[w.heap.size]? =some (pgO A0 p.arrays.length c0 A1 p.funcs.length c1) from(Below.heap_alloc _ _ _ (by simp)).trans (heap_alloc_new w _));have HXX:=hid (show ((w.alloc (pgO A0 p.arrays.length c0 A1 p.funcs.length c1)).alloc (jW 7 op n s A args.length c)).heap[w.heap.size+1]? =some (jW 7 op n s A args.length c) from by simpa using heap_alloc_new (w.alloc (pgO A0 p.arrays.length c0 A1 p.funcs.length c1)) (jW 7 op n s A args.length c));clear hE hp hk hx hr hi hz0 hz1 hz2 hm ih;go_enter Tryz.func83,Tryz.ntmps83
 go_wp2_with (first
  | (go_at_call 64
     have hE2:=HE.out.below (HW0.out.mono HE.out.hB)
     (with_reducible refine(jA B p s _ HZ.out _ _ _ hE2.hB hE2.ha hE2.hf).mono ?_)
     rintro e w1 ⟨rfl,hb⟩;have hx1:=(hb.block (w.heap.size+1) (by simp)).trans HXX.out;have hx0:=(hb.block w.heap.size (by simp;omega)).trans HXP.out;obtain⟨e0,e1,e2,e3,e4⟩:=jw hx1;obtain⟨⟨q0,q1⟩,qz⟩:=zE hx0;have hs1:w.heap.size+1<w1.heap.size:=zB hx1;have hs0:w.heap.size<w1.heap.size:=by omega
     have HX0:=hid hx0;have HX1:=hid hx1;have hbw1:Below w.heap.size w w1:=HW0.out.trans (hb.mono (by simp;omega));have HB1:=hid hbw1;have HE1:=hid (HE.out.below (hbw1.mono HE.out.hB))
     clear hb hE2 hx1 hx0 hbw1)
  | (go_at_call 30
     (with_reducible refine(jN B vars s _ _ HT.out HVB.out _ _ HE1.out.hB HE1.out.hv).mono ?_)
     rintro e w9 ⟨rfl,rfl⟩))
 obtain⟨gF,oF,v2,v3,rfl,hgF,z0,z1,z2,z3,hpz,hbz⟩:=HE1.out.hf.cells HKF.out;obtain⟨A6,c6,rfl,hn6⟩:=hpz.form;have HPZ:=hid hpz;have hgF1:gF<w1.heap.size:=by have:=HE1.out.hB;omega
 clear hpz hbz
 go_quiet (fail)
 go_wp2_with (fail)
 go_ret2
 have hrr:=HPRE.out;rw[HR.out]at hrr;subst hrr;exact⟨rfl,bdN HB1.out _⟩
set_option maxHeartbeats 1600000 in
theorem rtype_call (m:Nat) (ih:RTC m) (B:Nat) (p:Pr) (vars:List Pa) (op n:Int) (s:ByteArray) (args:List Ex) (r:Int × Int) (va v0 v1 v:Value) (w:World) (hk:zh 7 op n s args.length=true) (hm:zr args m=true) (hp:ui p) (hE:REnv B p vars v0 v1 v w) (hx:qw B w va args)
 (q:Nat) (f:Fu) (hq:qN p.funcs s=some q) (hf:p.funcs[q]? =some f) (hc:args.length=f.params.length) (h8:args.length≤8) (hr:qI p vars (.mk 7 op n s args)=r):
 Calls Tryz.prog 83 #[.agg #[v0,v1],v,.agg #[.int .i64 7,.int .i64 op,.int .i64 n,.string s,va]] w fun e w'=>e=.returned (.tuple #[.int .i64 r.1,.int .i64 r.2])∧Below w.heap.size w w':=by
 have HPRE:=hid (show qI p vars (.mk 7 op n s args)=(match zi p vars args with | .inl e=>(0,e) | .inr l=>qu p vars 7 op s l) by rw[kr,show jx p vars 7 s=true from by simp[jx,hq],show kd p 7 s args.length=true from by simp[kd,xK,hq,hf,hc]];rfl);have hcz:((args.length:Int) != (f.params.length:Int))=false:=by simp;omega
 have HC:=hid hc;clear hc;have HNY:=hid (fun l=>show qu p vars 7 op s l=if l=f.params.map (·.type) then (f.type,0) else (0,51) by simp[qu,xK,hq,hf]);obtain⟨A0,c0,A1,c1,A2,c2,rfl,rfl,rfl⟩:=hE.form;obtain⟨A,c,rfl,hn⟩:=hx.form;obtain⟨i0,hi,hz0,hz1,hz2⟩:=info_parts xP;have HI0:=hid (And.intro hi (And.intro hz0 (And.intro hz1 hz2)));have HZ:=hid (show jY (qN p.funcs s)=(q:Int) by rw[hq];rfl);have HKF:=hid hf;have hql:q<p.funcs.length:=(List.getElem?_eq_some_iff.1 hf).1;clear hq hf;obtain⟨t0,htt⟩:∃ z,(z5 vars s).getD 0=z:=⟨_,rfl⟩
 have HT:=hid htt;clear htt;obtain⟨vb,hvb⟩:∃ z,(z5 vars s).isSome=z:=⟨_,rfl⟩
 have HVB:=hid hvb;clear hvb;have HE:=hid hE;have HP:=hid hp;have HR:=hid hr;have HM:=hid hm;have HX:=hid hx;have HIH:=hid ih;have HW0:=hid (show Below w.heap.size w ((w.alloc (pgO A0 p.arrays.length c0 A1 p.funcs.length c1)).alloc (jW 7 op n s A args.length c)) from(Zb.alloc Zr _).alloc (by simp) _);have HXP:=hid (show ((w.alloc (pgO A0 p.arrays.length c0 A1 p.funcs.length c1)).alloc (jW 7 op n s A args.length c)).heap[w.heap.size]? =some (pgO A0 p.arrays.length c0 A1 p.funcs.length c1) from(Below.heap_alloc _ _ _ (by simp)).trans (heap_alloc_new w _));have HXX:=hid (show ((w.alloc (pgO A0 p.arrays.length c0 A1 p.funcs.length c1)).alloc (jW 7 op n s A args.length c)).heap[w.heap.size+1]? =some (jW 7 op n s A args.length c) from by simpa using heap_alloc_new (w.alloc (pgO A0 p.arrays.length c0 A1 p.funcs.length c1)) (jW 7 op n s A args.length c));clear hE hp hk hx hr hi hz0 hz1 hz2 hm ih;go_enter Tryz.func83,Tryz.ntmps83
 go_wp2_with (first
  | (go_at_call 64
     have hE2:=HE.out.below (HW0.out.mono HE.out.hB)
     (with_reducible refine(jA B p s _ HZ.out _ _ _ hE2.hB hE2.ha hE2.hf).mono ?_)
     rintro e w1 ⟨rfl,hb⟩;have hx1:=(hb.block (w.heap.size+1) (by simp)).trans HXX.out;have hx0:=(hb.block w.heap.size (by simp;omega)).trans HXP.out;obtain⟨e0,e1,e2,e3,e4⟩:=jw hx1;obtain⟨⟨q0,q1⟩,qz⟩:=zE hx0;have hs1:w.heap.size+1<w1.heap.size:=zB hx1;have hs0:w.heap.size<w1.heap.size:=by omega
     have HX0:=hid hx0;have HX1:=hid hx1;have hbw1:Below w.heap.size w w1:=HW0.out.trans (hb.mono (by simp;omega));have HB1:=hid hbw1;have HE1:=hid (HE.out.below (hbw1.mono HE.out.hB))
     clear hb hE2 hx1 hx0 hbw1)
  | (go_at_call 30
     (with_reducible refine(jN B vars s _ _ HT.out HVB.out _ _ HE1.out.hB HE1.out.hv).mono ?_)
     rintro e w9 ⟨rfl,rfl⟩))
 obtain⟨gF,oF,v2,v3,rfl,hgF,z0,z1,z2,z3,hpz,hbz⟩:=HE1.out.hf.cells HKF.out;obtain⟨A6,c6,rfl,hn6⟩:=hpz.form;have HPZ:=hid hpz;have hgF1:gF<w1.heap.size:=by have:=HE1.out.hB;omega
 clear hpz hbz
 go_quiet (fail)
 go_wp2_with (fail)
 go_loopw [11,12] (fun lv iv wr=>∃ (j:Nat) (l:List Int),j≤args.length∧iv=.int .i64 j∧l.length=j∧zi p vars (args.take j)=.inr l∧wr.ownsRow w1.heap.size 3 1 lv j (l.map (Value.int .i64))∧Below w1.heap.size w1 wr) (fun _ iv _=>args.length-(intOf iv).toNat)
 case atStart=>exact⟨0,[],Nat.zero_le _,rfl,rfl,by rw[List.take_zero,zi],World.ownsRow_nil _ _ _ _,bdN Zb _⟩
 case round=>
  obtain⟨j,l,hj,rfl,hll,hte,ho,hbw⟩:=hrel;obtain⟨A4,c4,rfl⟩:=qT ho;have hsz:=hbw.size;have hwr:Below w.heap.size w wr:=HB1.out.trans (hbw.mono (by omega));obtain⟨⟨r0,r1⟩,_⟩:=zE ((hbw.block w.heap.size (by omega)).trans HX0.out);obtain⟨d0,d1,d2,d3,d4⟩:=jw ((hbw.block (w.heap.size+1) (by omega)).trans HX1.out);have HBW:=hid hbw;have HWR:=hid hwr;have HO:=hid ho;have HTE:=hid hte;have HER:=hid (HE.out.below (hwr.mono HE.out.hB));have hss0:w.heap.size<wr.heap.size:=by omega
  have hss1:w.heap.size+1<wr.heap.size:=by omega
  clear hbw hwr ho hte;by_cases hlt:j<args.length
  · obtain⟨⟨k',op',n',s',as'⟩,he⟩:∃ e,args[j]? =some e:=⟨_,List.getElem?_eq_getElem hlt⟩
    obtain⟨g,o,v',rfl,hg,y0,y1,y2,y3,y4,hsl⟩:=(HX.out.below (HWR.out.mono HE.out.hB) Zr).cells he;obtain⟨A5,c5,rfl,_⟩:=hsl.form;have HEX:=hid (show vx B wr (.mk k' op' n' s' as') (.agg #[.int .i64 k',.int .i64 op',.int .i64 n',.string s',.slice A5 as'.length c5]) from⟨_,rfl,(HX.out.below (HWR.out.mono HE.out.hB) Zr).range he,hsl⟩);have hgs:g<wr.heap.size:=by have:=HE.out.hB;omega
    obtain⟨⟨t,f⟩,htf⟩:∃ r,qI p vars (.mk k' op' n' s' as')=r:=⟨_,rfl⟩
    have HTF:=hid htf;have HOK:=hid (qV HM.out he);have HEE:=hid he;clear hsl htf he;by_cases hf0:f=0
    all_goals (try subst hf0)
    all_goals
     go_wp2_with (fail)
     go_region_held3 (fun w'=>w'.cell? ⟨w.heap.size,0,none⟩=some (.slice A0 p.arrays.length c0)∧w'.cell? ⟨w.heap.size,1,none⟩=some (.slice (some ⟨gF,oF,none⟩) p.funcs.length c1)∧w'.cell? ⟨w.heap.size+1,4,none⟩=some (.slice (some ⟨g,o,none⟩) args.length c)∧w'.cell? ⟨g,o+j * 5,none⟩=some (.int .i64 k')∧w'.cell? ⟨g,o+j * 5+1,none⟩=some (.int .i64 op')∧w'.cell? ⟨g,o+j * 5+2,none⟩=some (.int .i64 n')∧w'.cell? ⟨g,o+j * 5+3,none⟩=some (.string s')∧w'.cell? ⟨g,o+j * 5+4,none⟩=some (.slice A5 as'.length c5))
      (first
        | (go_split_ands;refine⟨?_,?_,?_,?_,?_,?_,?_,?_⟩ <;> (first | (rw[hk5];assumption) | (rw[hx5];assumption) | (rw[hg5];assumption)))
        | go_keep)
      (first
        | (go_at_call 83
           (refine(HIH.out.call (w:=wr.drew) HOK.out HP.out HTF.out (HER.out.below Zb.drew) (HEX.out.below Zb.drew Zr)).mono ?_)
           rintro e w5 ⟨rfl,hb⟩;have hb5:Below wr.heap.size wr w5:=Zb.drew.trans hb;have hz5:wr.heap.size≤w5.heap.size:=hb5.size;have hk5:∀ k,w5.cell? ⟨w.heap.size,k,none⟩=wr.cell? ⟨w.heap.size,k,none⟩:=fun k=>hb5.cell (p:=⟨w.heap.size,k,none⟩) hss0
           have hx5:∀ k,w5.cell? ⟨w.heap.size+1,k,none⟩=wr.cell? ⟨w.heap.size+1,k,none⟩:=fun k=>hb5.cell (p:=⟨w.heap.size+1,k,none⟩) hss1
           have hg5:∀ k,w5.cell? ⟨g,k,none⟩=wr.cell? ⟨g,k,none⟩:=fun k=>hb5.cell (p:=⟨g,k,none⟩) hgs
           have HB5:=hid hb5;have HO5:=hid (zv (z7 HO.out fun k hk=>hb5.block k (zM HO.out k hk).2) (.cells #[.int .i64 t] 3));have HN5:=hid (ve w5 [.int .i64 t] 3)
           clear hb hb5))
    · go_wp2_with (at_builtin;refine wpList_append_own _ rfl (.tmp 97) (.tmp 99) _ rfl w1.heap.size 3 i0 _ 1 8 Tryz.underlying145 HI0.out.1 HI0.out.2.1 HI0.out.2.2.1 HI0.out.2.2.2 rfl (by omega) (.slice A4 j c4) j _ rfl (by exact HO5.out) ⟨w5.heap.size,0,none⟩ 1 1 [.int .i64 t] rfl rfl (by exact HN5.out) (by simp[Value.oneCell']) (by simp only[maxLen];omega) (by omega) (by simp;omega) ?_
                   intro v6 w6 hown6 hg6 _;have HG6:=hid hg6;have HO6:=hid hown6
                   clear hown6 hg6)
      go_roundw
      case rel=>
       refine⟨j+1,l++[t],by omega,by go_num,by simp[hll],?_,?_,?_⟩
       · have:=ya HTE.out HEE.out (by rw[HTF.out])
         rwa [HTF.out]at this
       · rw[←ints_take];exact HO6.out
       · exact((HBW.out.trans (HB5.out.mono (by omega))).alloc (by omega) _).grown HG6.out (by simp;omega) fun k hk=>(zM HO5.out k hk).1
      case measure=>simp[intOf];omega
    · go_wp2_with (fail)
      go_ret2
      have hrr:=HPRE.out;rw[vg HTE.out HEE.out (by rw[HTF.out];exact hf0),HTF.out]at hrr;rw[HR.out]at hrr;subst hrr;exact⟨rfl,HWR.out.trans (HB5.out.mono (by omega))⟩
  · have hjl:j=args.length:=by omega
    subst hjl;have HTA:=hid (show zi p vars args=.inr l by have:=HTE.out;rwa [List.take_of_length_le Zr]at this);clear HTE hj hlt;have HOL:=hid (z7 (w':=wr) HO.out fun _ _=>rfl);have u1:wr.cell? ⟨gF,oF+q * 4+1,none⟩=some (.int .i64 f.type):=(HBW.out.cell (p:=⟨gF,_,none⟩) hgF1).trans z1;have u2:wr.cell? ⟨gF,oF+q * 4+2,none⟩=some (.slice A6 f.params.length c6):=(HBW.out.cell (p:=⟨gF,_,none⟩) hgF1).trans z2;have hgF2:gF<wr.heap.size:=by omega
    go_wp2_with (fail)
    go_loopw [15] (fun iv wr2=>∃ i nq:Nat,i≤args.length∧iv=.int .i64 i∧(∀ q,q<i→l[q]? =(f.params.map (·.type))[q]?)∧wr2=wr.drewN nq) (fun iv _=>args.length-(intOf iv).toNat)
    case atStart=>exact⟨0,0,Nat.zero_le _,rfl,fun q hq=>absurd hq (by omega),rfl⟩
    case round=>
     obtain⟨i,nq,hi,rfl,hok,rfl⟩:=hrel;have HOKN:=hid hok;clear hok;by_cases hlt:i<args.length
     · have hlp:i<f.params.length:=by have:=HC.out;omega
       obtain⟨x,hx⟩:∃ e,l[i]? =some e:=⟨_,List.getElem?_eq_getElem (by omega)⟩
       obtain⟨y,hy⟩:∃ e,f.params[i]? =some e:=⟨_,List.getElem?_eq_getElem hlp⟩
       obtain⟨gl,c7,hA4,hgl⟩:∃ g c,Value.slice A4 args.length c4=.slice (some ⟨g,0,none⟩) args.length c∧g<wr.heap.size:=by
        rcases HO.out.2 with⟨_,h0⟩ | ⟨g,cap,cur,hv,_,h2,_⟩
        · omega
        · exact⟨g,cap,hv,zB h2⟩
       injection hA4 with hA4 _ hc4;subst hA4 hc4;obtain⟨gp,op',rfl,hgp,y0,y1⟩:=(HPZ.out.below (HBW.out.mono HE1.out.hB) Zr).cells hy;have hgp2:gp<wr.heap.size:=by have:=HE1.out.hB;omega
       have hx0:wr.cell? ⟨gl,i,none⟩=some (.int .i64 x):=(HO.out.cellAt i (by omega)).trans (by rw[List.getElem?_map,hx];rfl);have HXI:=hid hx;have HY:=hid hy;clear hx hy;by_cases h2:x=y.type
       · have b2:(x != y.type)=false:=by simp[h2]
         have HXY:=hid h2;clear h2;go_wp2_with (fail)
         go_quiet (fail)
         go_wp2_with (fail);go_roundw
         case rel=>
          refine⟨i+1,_,by omega,by go_num,fun k hk=>?_,rfl⟩;by_cases hki:k=i
          · subst hki
            rw[HXI.out,List.getElem?_map,HY.out,HXY.out];rfl
          · exact HOKN.out k (by omega)
         case measure=>simp[intOf];omega
       · have b2:(x != y.type)=true:=by simp[h2]
         go_wp2_with (fail)
         go_quiet (fail)
         go_wp2_with (fail)
         go_ret2
         have hrr:=HPRE.out;rw[HTA.out,HR.out]at hrr;dsimp only at hrr;rw[show qu p vars 7 op s l=(0,51) from by rw[HNY.out,if_neg (by intro e;apply h2;have h3:=HXI.out;rw[e,List.getElem?_map,HY.out]at h3;exact(Option.some.inj h3).symm)]]at hrr;subst hrr;exact⟨rfl,bdN (bdN HWR.out _) _⟩
     · have hil:i=args.length:=by omega
       subst hil;go_wp2_with (fail)
       go_ret2
       have hrr:=HPRE.out;rw[HTA.out,HR.out]at hrr;dsimp only at hrr;rw[show qu p vars 7 op s l=(f.type,0) from by rw[HNY.out,if_pos (List.ext_getElem? fun k=>by by_cases hk:k<args.length;exact HOKN.out k hk;rw[List.getElem?_eq_none (by omega),List.getElem?_eq_none (by rw[List.length_map];have:=HC.out;omega)])]]at hrr;subst hrr;exact⟨rfl,bdN HWR.out _⟩
theorem rtype_all:∀ m,RTC m
 | 0=>fun _ _ _ e _ _ _ _ _ _ h=>by
   obtain⟨k,op,n,s,args⟩:=e;rw[ju]at h;simp at h
 | m+1=>fun B p vars e r x v0 v1 v w h hp hr hE hx=>by
   obtain⟨k,op,n,s,args⟩:=e;rw[ju,Bool.and_eq_true,Bool.and_eq_true]at h;obtain⟨⟨_,hf⟩,hm⟩:=h;rw[Nat.add_sub_cancel]at hm;obtain⟨va,rfl,_,hs⟩:=hx;have ih:=rtype_all m;rcases xQ hf with rfl | rfl | rfl | rfl | rfl | rfl | rfl | rfl
   · exact km 1 m ih B p vars op n s args r va v0 v1 v w hf hm hp hE hs (by decide) rfl rfl (fun e=>absurd e (by decide)) (fun _=>.inr rfl) (by rw[qm hf (by decide)];decide) hr
   · exact km 2 m ih B p vars op n s args r va v0 v1 v w hf hm hp hE hs (by decide) rfl rfl (fun e=>absurd e (by decide)) (fun _=>.inr rfl) (by rw[qm hf (by decide)];decide) hr
   · cases hv:z5 vars s with
     | none=>exact rtype_var_no m ih B p vars op n s args r va v0 v1 v w hf hm hp hE hs hv (by rw[qm hf (by decide)];decide) hr
     | some t=>exact km 3 m ih B p vars op n s args r va v0 v1 v w hf hm hp hE hs (by decide) (by simp[jx,hv]) rfl (fun _=>by rw[hv];rfl) (fun _=>.inr (by simp[qu,hv])) (by rw[qm hf (by decide)];decide) hr
   · exact km 4 m ih B p vars op n s args r va v0 v1 v w hf hm hp hE hs (by decide) rfl rfl (fun e=>absurd e (by decide)) (fun _=>.inl (by decide)) (by obtain⟨a,rfl⟩:=fE_one hf;simp) hr
   · exact km 5 m ih B p vars op n s args r va v0 v1 v w hf hm hp hE hs (by decide) rfl rfl (fun e=>absurd e (by decide)) (fun _=>.inl (by decide)) (by obtain⟨a,c,rfl⟩:=fE_two hf;simp) hr
   · have h1:args.length=1:=by obtain⟨a,rfl⟩:=ul hf;rfl
     cases hv:qb p.arrays s with
     | none=>exact rtype_index_no m ih B p vars op n s args r va v0 v1 v w hf hm hp hE hs hv (by omega) hr
     | some q=>exact rtype_index m ih B p vars op n s args r va v0 v1 v w hf hm hp hE hs q hv h1 (by omega) hr
   · have h8:args.length≤8:=by simp[zh]at hf;exact hf.2
     cases hv:qN p.funcs s with
     | none=>exact rtype_call_no m ih B p vars op n s args r va v0 v1 v w hf hm hp hE hs hv h8 hr
     | some q=>
       obtain⟨f,hq,_⟩:=xO hv;by_cases hc:args.length=f.params.length
       · exact rtype_call m ih B p vars op n s args r va v0 v1 v w hf hm hp hE hs q f hv hq hc h8 hr
       · exact rtype_call_count m ih B p vars op n s args r va v0 v1 v w hf hm hp hE hs q f hv hq hc h8 hr
   · exact km 8 m ih B p vars op n s args r va v0 v1 v w hf hm hp hE hs (by decide) rfl rfl (fun e=>absurd e (by decide)) (fun _=>.inr rfl) (by rw[qm hf (by decide)];decide) hr
abbrev rckO (v0 v1:Value) (s:ByteArray) (t:Int) (v2 v3:Value) (n:Int):Obj:=.cells #[v0,v1,.string s,.int .i64 t,v2,v3,.int .i64 n] 83
theorem zN {w:World} {g:Nat} {c0 c1 c2 c3 c4 c5 c6:Value} {T:TypeId} (h:w.heap[g]? =some (.cells #[c0,c1,c2,c3,c4,c5,c6] T (0,0))):(w.cell? ⟨g,0,none⟩=some c0∧w.cell? ⟨g,1,none⟩=some c1∧w.cell? ⟨g,2,none⟩=some c2∧w.cell? ⟨g,3,none⟩=some c3∧w.cell? ⟨g,4,none⟩=some c4∧w.cell? ⟨g,5,none⟩=some c5∧w.cell? ⟨g,6,none⟩=some c6)∧∀ o,w.frozen? ⟨g,o,none⟩=false:=
 ⟨⟨(Lib.cell_of_heap h 0).trans rfl,(Lib.cell_of_heap h 1).trans rfl,(Lib.cell_of_heap h 2).trans rfl,(Lib.cell_of_heap h 3).trans rfl,(Lib.cell_of_heap h 4).trans rfl,(Lib.cell_of_heap h 5).trans rfl,(Lib.cell_of_heap h 6).trans rfl⟩,fun o=>by simp[World.frozen?,h]⟩
set_option maxHeartbeats 1600000 in
theorem jj (B b:Nat) (p:Pr) (vars:List Pa) (e:Ex) (t r:Int) (x v0 v1 v v2 v3:Value) (fs:ByteArray) (ft n:Int) (w:World) (hE:REnv B p vars v0 v1 v w) (hb:w.heap[b]? =some (rckO v0 v1 fs ft v2 v3 n)) (hx:vx B w e x) (hok:yr e 100=true) (hp:ui p) (hr:q7 p vars e t=r):
 Calls Tryz.prog 82 #[.pointer (some ⟨b,0,none⟩),v,x,.int .i64 t] w fun e w'=>e=.returned (.int .i64 r)∧Below w.heap.size w w':=by
 obtain⟨A0,c0,A1,c1,A2,c2,rfl,rfl,rfl⟩:=hE.form;obtain⟨k',op',n',s',as'⟩:=e;obtain⟨va,rfl,hrg,hsl⟩:=hx;dsimp only[Ex.kind,Ex.op,Ex.n,Ex.name,Ex.args]at hsl hrg ⊢;obtain⟨A5,c5,rfl,_⟩:=hsl.form;have hbl:=zB hb;obtain⟨⟨b0,b1,b2,b3,b4,b5,b6⟩,bz⟩:=zN hb;obtain⟨⟨ty,f⟩,htf⟩:∃ r,qI p vars (.mk k' op' n' s' as')=r:=⟨_,rfl⟩
 have hwe:(if f=0 then (if ty=t then 0 else 51) else f)=r:=by rw[←hr];unfold q7;rw[htf]
 have hw1:Below w.heap.size w (w.alloc (jW k' op' n' s' A5 as'.length c5)).drew:=(Zb.alloc Zr _).drew;have HW1:=hid hw1;have HED:=hid (hE.below (hw1.mono hE.hB));have HXD:=hid (show vx B (w.alloc (jW k' op' n' s' A5 as'.length c5)).drew (.mk k' op' n' s' as') (.agg #[.int .i64 k',.int .i64 op',.int .i64 n',.string s',.slice A5 as'.length c5]) from⟨_,rfl,hrg,hsl.below (hw1.mono hE.hB) Zr⟩);have HTF:=hid htf;have HWE:=hid hwe;have HOK:=hid hok;have HP:=hid hp;have hrl:f=0∧ty=t∨f=0∧ty≠t∨f≠0:=by omega
 clear hE hb hsl hok hp hr htf hwe hw1 hrg;rcases hrl with⟨h1,h2⟩ | ⟨h1,h2⟩ | h1
 all_goals
  first
   | (subst h1;subst h2)
   | (subst h1)
   | skip
  go_enter Tryz.func82,Tryz.ntmps82;go_wp2_with (fail)
  go_region_held3 (fun w'=>w'.cell? ⟨b,0,none⟩=some (.slice A0 p.arrays.length c0)∧w'.cell? ⟨b,1,none⟩=some (.slice A1 p.funcs.length c1)∧w'.cell? ⟨w.heap.size,0,none⟩=some (.int .i64 k')∧w'.cell? ⟨w.heap.size,1,none⟩=some (.int .i64 op')∧w'.cell? ⟨w.heap.size,2,none⟩=some (.int .i64 n')∧w'.cell? ⟨w.heap.size,3,none⟩=some (.string s')∧w'.cell? ⟨w.heap.size,4,none⟩=some (.slice A5 as'.length c5))
   (first
     | (go_split_ands;refine⟨?_,?_,?_,?_,?_,?_,?_⟩ <;> (first | (rw[hq5];assumption) | (rw[hm5];simp;done)))
     | go_keep)
   (first
     | (go_at_call 83
        (refine((rtype_all 100).call (w:=(w.alloc (jW k' op' n' s' A5 as'.length c5)).drew) HOK.out HP.out HTF.out HED.out HXD.out).mono ?_)
        rintro e w2 ⟨rfl,hb2⟩;have hb2':Below w.heap.size w w2:=HW1.out.trans (hb2.mono (by show w.heap.size≤(w.alloc _).heap.size;rw[zA];omega));have hq5:∀ o,w2.cell? ⟨b,o,none⟩=w.cell? ⟨b,o,none⟩:=fun o=>hb2'.cell (p:=⟨b,o,none⟩) hbl
        have hm5:∀ o,w2.cell? ⟨w.heap.size,o,none⟩=(w.alloc (jW k' op' n' s' A5 as'.length c5)).cell? ⟨w.heap.size,o,none⟩:=fun o=>hb2.cell (p:=⟨w.heap.size,o,none⟩) (by show w.heap.size<(w.alloc _).heap.size;rw[zA];omega)
        have HW2:=hid hb2'
        clear hb2 hb2'))
  go_wp2_with (fail)
  all_goals go_ret
  all_goals refine⟨zk ?_,HW2.out⟩
  all_goals
   have hwr:=HWE.out
   simp_all
end Go.Proofs.YtfghofifjnbicaaGreatDoor
