import Derived.Test.YtndgkfkieogplaaDoorAgTyFo
import Derived.BigQuiet
import Derived.Deep.RegionHeld3
import Derived.Deep.QuietTactic
set_option linter.unusedSimpArgs false
set_option linter.unusedVariables false
set_option maxRecDepth 100000
/- The contract of the document's reckoning of an expression's type: E2. (By tools/gen_tyrt.py.) -/
namespace Go.Proofs.YtndgkfkieogplaaDoor
open Lib (hid)
open Go.RowKit
structure REnv (B:Nat) (p:Pr) (vars:List Pa) (v0 v1 v:Value) (w:World):Prop where
 hB:B≤w.heap.size
 ha:SlA B w v0 p.arrays
 hf:SlF B w v1 p.funcs
 hv:SlP B w v vars
theorem REnv.below {B:Nat} {p:Pr} {vars:List Pa} {v0 v1 v:Value} {w w':World} (h:REnv B p vars v0 v1 v w) (hb:Below B w w'):REnv B p vars v0 v1 v w' where
 hB:=Nat.le_trans h.hB hb.size
 ha:=h.ha.below hb (Nat.le_refl _)
 hf:=h.hf.below hb (Nat.le_refl _)
 hv:=h.hv.below hb (Nat.le_refl _)
theorem REnv.form {B:Nat} {p:Pr} {vars:List Pa} {v0 v1 v:Value} {w:World} (h:REnv B p vars v0 v1 v w):∃ A0 c0 A1 c1 A2 c2,v0=.slice A0 p.arrays.length c0∧v1=.slice A1 p.funcs.length c1∧v=.slice A2 vars.length c2:=by
 obtain⟨A0,c0,e0,_⟩:=h.ha.form
 obtain⟨A1,c1,e1,_⟩:=h.hf.form
 obtain⟨A2,c2,e2,_⟩:=h.hv.form
 exact⟨A0,c0,A1,c1,A2,c2,e0,e1,e2⟩
def RTC (m:Nat):Prop:=∀ (B:Nat) (p:Pr) (vars:List Pa) (e:Ex) (r:Int × Int) (x v0 v1 v:Value) (w:World),xU e m=true→Few p→zq p vars e=r→REnv B p vars v0 v1 v w→vB B w e x→
 Calls Tryd.prog 33 #[.agg #[v0,v1],v,x] w fun e w'=>e=.returned (.tuple #[.int .i64 r.1,.int .i64 r.2])∧Below w.heap.size w w'
theorem RTC.call {m:Nat} (h:RTC m) {B:Nat} {p:Pr} {vars:List Pa} {e:Ex} {r:Int × Int} {x v0 v1 v:Value} {w:World} (h1:xU e m=true) (h2:Few p) (h3:zq p vars e=r) (h4:REnv B p vars v0 v1 v w) (h5:vB B w e x):
 Calls Tryd.prog 33 #[.agg #[v0,v1],v,x] w fun e w'=>e=.returned (.tuple #[.int .i64 r.1,.int .i64 r.2])∧Below w.heap.size w w':=h B p vars e r x v0 v1 v w h1 h2 h3 h4 h5
theorem qU (B:Nat) (p:Pr) (s:ByteArray) (z:Int) (hz:jQ (qF p.funcs s)=z) (v0 v1:Value) (w:World) (hB:B≤w.heap.size) (ha:SlA B w v0 p.arrays) (hf:SlF B w v1 p.funcs):
 Calls Tryd.prog 54 #[.agg #[v0,v1],.string s] w fun e w'=>e=.returned (.int .i64 z)∧Below w.heap.size w w':=hz ▸ rplace_any B p s v0 v1 w hB ha hf
theorem xo (B:Nat) (p:Pr) (s:ByteArray) (z:Int) (hz:jQ (qg p.arrays s)=z) (v0 v1:Value) (w:World) (hB:B≤w.heap.size) (ha:SlA B w v0 p.arrays) (hf:SlF B w v1 p.funcs):
 Calls Tryd.prog 53 #[.agg #[v0,v1],.string s] w fun e w'=>e=.returned (.int .i64 z)∧Below w.heap.size w w':=hz ▸ rarray_any B p s v0 v1 w hB ha hf
theorem qd (B:Nat) (l:List Pa) (s:ByteArray) (t:Int) (b:Bool) (ht:(zi l s).getD 0=t) (hb:(zi l s).isSome=b) (v:Value) (w:World) (hB:B≤w.heap.size) (hl:SlP B w v l):
 Calls Tryd.prog 28 #[v,.string s] w fun e w'=>e=.returned (.tuple #[.int .i64 t,.bool b])∧w=w':=ht ▸ hb ▸ rfind_any B l s v w hB hl
theorem bdN {B:Nat} {a w:World} (h:Below B a w) (n:Nat):Below B a (w.drewN n):=h.trans ⟨rfl,rfl,rfl,Nat.le_refl _,fun _ _=>rfl⟩
def OkN (a:Int) (l:List Int) (j:Nat):Prop:=∀ (i:Nat) t,i<j→l[i]? =some t→(a=0∨t=a)∧t=l.headD 0
theorem OkN.zero (a:Int) (l:List Int):OkN a l 0:=fun i t hi=>absurd hi (by omega)
theorem OkN.succ {a:Int} {l:List Int} {j:Nat} {t:Int} (h:OkN a l j) (ht:l[j]? =some t) (e:(a=0∨t=a)∧t=l.headD 0):OkN a l (j+1):=fun i x hi hx=>by
 by_cases hij:i=j
 · subst hij
   rw[ht]at hx
   injection hx with hx
   exact hx ▸ e
 · exact h i x (by omega) hx
theorem OkN.all {a:Int} {l:List Int} (h:OkN a l l.length):(l.all fun t=>decide ((a=0∨t=a)∧t=l.headD 0))=true:=by
 rw[List.all_eq_true]
 intro t ht
 obtain⟨i,hi⟩:=List.getElem?_of_mem ht
 exact decide_eq_true (h i t (List.getElem?_eq_some_iff.1 hi).1 hi)
theorem vE {a:Int} {l:List Int} {i:Nat} {t:Int} (hi:l[i]? =some t) (h:¬ ((a=0∨t=a)∧t=l.headD 0)):(l.all fun t=>decide ((a=0∨t=a)∧t=l.headD 0))=false:=by
 rw[List.all_eq_false]
 exact⟨t,List.mem_of_getElem? hi,by simpa using h⟩
theorem ku {p:Pr} {vars:List Pa} {k op:Int} {s:ByteArray} {l:List Int} (h:k=4∨k=5):qH p vars k op s l=if (l.all fun t=>decide ((qq op=0∨t=qq op)∧t=l.headD 0))=true then (ym op,0) else (0,51):=by
 unfold qH
 rw[if_neg (by omega),if_neg (by omega),if_neg (by omega),if_neg (by omega),if_pos h]
theorem nodeY_idx {p:Pr} {vars:List Pa} {op:Int} {s:ByteArray} {l:List Int}:qH p vars 6 op s l=if l.headD 0=1 then (1,0) else (0,51):=by
 unfold qH
 rw[if_neg (by decide),if_neg (by decide),if_neg (by decide),if_pos rfl]
theorem xN {l:List Int} {t:Int}:l.map (Value.int .i64)++[Value.int .i64 t]=(l++[t]).map (Value.int .i64):=by simp
abbrev qO (k op n:Int) (s:ByteArray) (A:Option Addr) (m c:Nat):Obj:=.cells #[.int .i64 k,.int .i64 op,.int .i64 n,.string s,.slice A m c] 48
theorem qP {w:World} {g:Nat} {c0 c1 c2 c3 c4:Value} {T:TypeId} (h:w.heap[g]? =some (.cells #[c0,c1,c2,c3,c4] T (0,0))):w.cell? ⟨g,0,none⟩=some c0∧w.cell? ⟨g,1,none⟩=some c1∧w.cell? ⟨g,2,none⟩=some c2∧w.cell? ⟨g,3,none⟩=some c3∧w.cell? ⟨g,4,none⟩=some c4:=
 ⟨(Lib.cell_of_heap h 0).trans rfl,(Lib.cell_of_heap h 1).trans rfl,(Lib.cell_of_heap h 2).trans rfl,(Lib.cell_of_heap h 3).trans rfl,(Lib.cell_of_heap h 4).trans rfl⟩
set_option maxHeartbeats 1600000 in
theorem rtype_one (m:Nat) (ih:RTC m) (B:Nat) (p:Pr) (vars:List Pa) (op n:Int) (s:ByteArray) (args:List Ex) (r:Int × Int) (va v0 v1 v:Value) (w:World) (hk:z6 4 op n s args.length=true) (hm:zo args m=true) (hp:Few p) (hE:REnv B p vars v0 v1 v w) (hx:kf B w va args)
 (h8:args.length≤8) (hr:zq p vars (.mk 4 op n s args)=r):
 Calls Tryd.prog 33 #[.agg #[v0,v1],v,.agg #[.int .i64 4,.int .i64 op,.int .i64 n,.string s,va]] w fun e w'=>e=.returned (.tuple #[.int .i64 r.1,.int .i64 r.2])∧Below w.heap.size w w':=by
 have HPRE:=hid (show zq p vars (.mk 4 op n s args)=(match zV p vars args with | .inl e=>(0,e) | .inr l=>qH p vars 4 op s l) by rw[jr,show kJ p vars 4 s=true from rfl,show jn p 4 s args.length=true from rfl];rfl)
 obtain⟨A0,c0,A1,c1,A2,c2,rfl,rfl,rfl⟩:=hE.form
 obtain⟨A,c,rfl,hn⟩:=hx.form
 obtain⟨i0,hi,hz0,hz1,hz2⟩:=info_parts kM
 have HI0:=hid (And.intro hi (And.intro hz0 (And.intro hz1 hz2)))
 obtain⟨z,hzz⟩:∃ z,jQ (qF p.funcs s)=z:=⟨_,rfl⟩
 have HZ:=hid hzz
 clear hzz
 obtain⟨t0,htt⟩:∃ z,(zi vars s).getD 0=z:=⟨_,rfl⟩
 have HT:=hid htt
 clear htt
 obtain⟨vb,hvb⟩:∃ z,(zi vars s).isSome=z:=⟨_,rfl⟩
 have HVB:=hid hvb
 clear hvb
 have HE:=hid hE
 have HP:=hid hp
 have HR:=hid hr
 have HM:=hid hm
 have HX:=hid hx
 have HIH:=hid ih
 have HW0:=hid (show Below w.heap.size w ((w.alloc (ze A0 p.arrays.length c0 A1 p.funcs.length c1)).alloc (qO 4 op n s A args.length c)) from((Below.refl _ _).alloc (Nat.le_refl _) _).alloc (by simp) _)
 have HXP:=hid (show ((w.alloc (ze A0 p.arrays.length c0 A1 p.funcs.length c1)).alloc (qO 4 op n s A args.length c)).heap[w.heap.size]? =some (ze A0 p.arrays.length c0 A1 p.funcs.length c1) from(Below.heap_alloc _ _ _ (by simp)).trans (heap_alloc_new w _))
 have HXX:=hid (show ((w.alloc (ze A0 p.arrays.length c0 A1 p.funcs.length c1)).alloc (qO 4 op n s A args.length c)).heap[w.heap.size+1]? =some (qO 4 op n s A args.length c) from by simpa using heap_alloc_new (w.alloc (ze A0 p.arrays.length c0 A1 p.funcs.length c1)) (qO 4 op n s A args.length c))
 clear hE hp hk hx hr hi hz0 hz1 hz2 hm ih
 go_enter Tryd.func33,Tryd.ntmps33
 go_wp2_with (first
  | (go_at_call 54
     have hE2:=HE.out.below (HW0.out.mono HE.out.hB)
     (with_reducible refine(qU B p s _ HZ.out _ _ _ hE2.hB hE2.ha hE2.hf).mono ?_)
     rintro e w1 ⟨rfl,hb⟩
     have hx1:=(hb.block (w.heap.size+1) (by simp)).trans HXX.out
     have hx0:=(hb.block w.heap.size (by simp;omega)).trans HXP.out
     obtain⟨e0,e1,e2,e3,e4⟩:=qP hx1
     obtain⟨⟨q0,q1⟩,qz⟩:=zE hx0
     have hs1:w.heap.size+1<w1.heap.size:=zB hx1
     have hs0:w.heap.size<w1.heap.size:=by omega
     have HX0:=hid hx0
     have HX1:=hid hx1
     have hbw1:Below w.heap.size w w1:=HW0.out.trans (hb.mono (by simp;omega))
     have HB1:=hid hbw1
     have HE1:=hid (HE.out.below (hbw1.mono HE.out.hB))
     clear hb hE2 hx1 hx0 hbw1)
  | (go_at_call 28
     (with_reducible refine(qd B vars s _ _ HT.out HVB.out _ _ HE1.out.hB HE1.out.hv).mono ?_)
     rintro e w9 ⟨rfl,rfl⟩))
 go_quiet (fail)
 go_wp2_with (fail)
 go_loopw [11,12] (fun lv iv wr=>∃ (j:Nat) (l:List Int),j≤args.length∧iv=.int .i64 j∧l.length=j∧zV p vars (args.take j)=.inr l∧wr.ownsRow w1.heap.size 3 1 lv j (l.map (Value.int .i64))∧Below w1.heap.size w1 wr) (fun _ iv _=>args.length-(intOf iv).toNat)
 case atStart=>exact⟨0,[],Nat.zero_le _,rfl,rfl,by rw[List.take_zero,zV],World.ownsRow_nil _ _ _ _,bdN (Below.refl _ _) _⟩
 case round=>
  obtain⟨j,l,hj,rfl,hll,hte,ho,hbw⟩:=hrel
  obtain⟨A4,c4,rfl⟩:=zp ho
  have hsz:=hbw.size
  have hwr:Below w.heap.size w wr:=HB1.out.trans (hbw.mono (by omega))
  obtain⟨⟨r0,r1⟩,_⟩:=zE ((hbw.block w.heap.size (by omega)).trans HX0.out)
  obtain⟨d0,d1,d2,d3,d4⟩:=qP ((hbw.block (w.heap.size+1) (by omega)).trans HX1.out)
  have HBW:=hid hbw
  have HWR:=hid hwr
  have HO:=hid ho
  have HTE:=hid hte
  have HER:=hid (HE.out.below (hwr.mono HE.out.hB))
  have hss0:w.heap.size<wr.heap.size:=by omega
  have hss1:w.heap.size+1<wr.heap.size:=by omega
  clear hbw hwr ho hte
  by_cases hlt:j<args.length
  · obtain⟨⟨k',op',n',s',as'⟩,he⟩:∃ e,args[j]? =some e:=⟨_,List.getElem?_eq_getElem hlt⟩
    obtain⟨g,o,v',rfl,hg,y0,y1,y2,y3,y4,hsl⟩:=(HX.out.below (HWR.out.mono HE.out.hB) (Nat.le_refl _)).cells he
    obtain⟨A5,c5,rfl,_⟩:=hsl.form
    have HEX:=hid (show vB B wr (.mk k' op' n' s' as') (.agg #[.int .i64 k',.int .i64 op',.int .i64 n',.string s',.slice A5 as'.length c5]) from⟨_,rfl,(HX.out.below (HWR.out.mono HE.out.hB) (Nat.le_refl _)).range he,hsl⟩)
    have hgs:g<wr.heap.size:=by have:=HE.out.hB;omega
    obtain⟨⟨t,f⟩,htf⟩:∃ r,zq p vars (.mk k' op' n' s' as')=r:=⟨_,rfl⟩
    have HTF:=hid htf
    have HOK:=hid (qJ HM.out he)
    have HEE:=hid he
    clear hsl htf he
    by_cases hf0:f=0
    all_goals (try subst hf0)
    all_goals
     go_wp2_with (fail)
     go_region_held3 (fun w'=>w'.cell? ⟨w.heap.size,0,none⟩=some (.slice A0 p.arrays.length c0)∧w'.cell? ⟨w.heap.size,1,none⟩=some (.slice A1 p.funcs.length c1)∧w'.cell? ⟨w.heap.size+1,4,none⟩=some (.slice (some ⟨g,o,none⟩) args.length c)∧w'.cell? ⟨g,o+j * 5,none⟩=some (.int .i64 k')∧w'.cell? ⟨g,o+j * 5+1,none⟩=some (.int .i64 op')∧w'.cell? ⟨g,o+j * 5+2,none⟩=some (.int .i64 n')∧w'.cell? ⟨g,o+j * 5+3,none⟩=some (.string s')∧w'.cell? ⟨g,o+j * 5+4,none⟩=some (.slice A5 as'.length c5))
      (first
        | (go_split_ands;refine⟨?_,?_,?_,?_,?_,?_,?_,?_⟩ <;> (first | (rw[hk5];assumption) | (rw[hx5];assumption) | (rw[hg5];assumption)))
        | go_keep)
      (first
        | (go_at_call 33
           (refine(HIH.out.call (w:=wr.drew) HOK.out HP.out HTF.out (HER.out.below (Below.refl _ _).drew) (HEX.out.below (Below.refl _ _).drew (Nat.le_refl _))).mono ?_)
           rintro e w5 ⟨rfl,hb⟩
           have hb5:Below wr.heap.size wr w5:=(Below.refl _ _).drew.trans hb
           have hz5:wr.heap.size≤w5.heap.size:=hb5.size
           have hk5:∀ k,w5.cell? ⟨w.heap.size,k,none⟩=wr.cell? ⟨w.heap.size,k,none⟩:=fun k=>hb5.cell (p:=⟨w.heap.size,k,none⟩) hss0
           have hx5:∀ k,w5.cell? ⟨w.heap.size+1,k,none⟩=wr.cell? ⟨w.heap.size+1,k,none⟩:=fun k=>hb5.cell (p:=⟨w.heap.size+1,k,none⟩) hss1
           have hg5:∀ k,w5.cell? ⟨g,k,none⟩=wr.cell? ⟨g,k,none⟩:=fun k=>hb5.cell (p:=⟨g,k,none⟩) hgs
           have HB5:=hid hb5
           have HO5:=hid (zh (zZ HO.out fun k hk=>hb5.block k (zH HO.out k hk).2) (.cells #[.int .i64 t] 3))
           have HN5:=hid (kh w5 [.int .i64 t] 3)
           clear hb hb5))
    · go_wp2_with (at_builtin;refine wpList_append_own _ rfl (.tmp 97) (.tmp 99) _ rfl w1.heap.size 3 i0 _ 1 8 Tryd.underlying100 HI0.out.1 HI0.out.2.1 HI0.out.2.2.1 HI0.out.2.2.2 rfl (by omega) (.slice A4 j c4) j _ rfl (by exact HO5.out) ⟨w5.heap.size,0,none⟩ 1 1 [.int .i64 t] rfl rfl (by exact HN5.out) (by simp[Value.oneCell']) (by simp only[maxLen];omega) (by omega) (by simp;omega) ?_
                   intro v6 w6 hown6 hg6 _
                   have HG6:=hid hg6
                   have HO6:=hid hown6
                   clear hown6 hg6)
      go_roundw
      case rel=>
       refine⟨j+1,l++[t],by omega,by go_num,by simp[hll],?_,?_,?_⟩
       · have:=jq HTE.out HEE.out (by rw[HTF.out])
         rwa [HTF.out]at this
       · rw[←xN];exact HO6.out
       · exact((HBW.out.trans (HB5.out.mono (by omega))).alloc (by omega) _).grown HG6.out (by simp;omega) fun k hk=>(zH HO5.out k hk).1
      case measure=>simp[intOf];omega
    · go_wp2_with (fail)
      go_ret2
      have hrr:=HPRE.out
      rw[ki HTE.out HEE.out (by rw[HTF.out];exact hf0),HTF.out]at hrr
      rw[HR.out]at hrr
      subst hrr
      exact⟨rfl,HWR.out.trans (HB5.out.mono (by omega))⟩
  · have hjl:j=args.length:=by omega
    subst hjl
    have HTA:=hid (show zV p vars args=.inr l by have:=HTE.out;rwa [List.take_of_length_le (Nat.le_refl _)]at this)
    clear HTE hj hlt
    go_wp2_with (go_at_call 58;(with_reducible refine(operand_any op _).mono ?_);rintro e w9 ⟨rfl,rfl⟩)
    obtain⟨a,haa⟩:∃ a,qq op=a:=⟨_,rfl⟩
    have HAA:=hid haa
    have HOL:=hid (zZ (w':=wr) HO.out fun _ _=>rfl)
    rw[haa]
    clear haa
    go_loopw [18] (fun iv wr2=>∃ i nq:Nat,i≤args.length∧iv=.int .i64 i∧OkN a l i∧wr2=wr.drewN nq) (fun iv _=>args.length-(intOf iv).toNat)
    case atStart=>exact⟨0,0,Nat.zero_le _,rfl,OkN.zero _ _,rfl⟩
    case round=>
     obtain⟨i,nq,hi,rfl,hok,rfl⟩:=hrel
     have HOKN:=hid hok
     clear hok
     by_cases hlt:i<args.length
     · obtain⟨x,hx⟩:∃ e,l[i]? =some e:=⟨_,List.getElem?_eq_getElem (by omega)⟩
       have hh:l[0]? =some (l.headD 0):=by
        cases l with
        | nil=>simp at hx
        | cons a r=>rfl
       obtain⟨y,hy⟩:∃ y,l.headD 0=y:=⟨_,rfl⟩
       rw[hy]at hh
       obtain⟨gl,c7,hA4,hgl⟩:∃ g c,Value.slice A4 args.length c4=.slice (some ⟨g,0,none⟩) args.length c∧g<wr.heap.size:=by
        rcases HO.out.2 with⟨_,h0⟩ | ⟨g,cap,cur,hv,_,h2,_⟩
        · omega
        · exact⟨g,cap,hv,zB h2⟩
       injection hA4 with hA4 _ hc4
       subst hA4 hc4
       have hx0:wr.cell? ⟨gl,i,none⟩=some (.int .i64 x):=(HO.out.cellAt i (by omega)).trans (by rw[List.getElem?_map,hx];rfl)
       have hx1:wr.cell? ⟨gl,0,none⟩=some (.int .i64 y):=(HO.out.cellAt 0 (by omega)).trans (by rw[List.getElem?_map,hh];rfl)
       have HXI:=hid hx
       have HY:=hid hy
       clear hx hh hy
       by_cases h2:x=y
       · subst h2
         by_cases h0:a=0
         · subst h0
           go_wp2_with (fail)
           go_quiet (fail)
           go_wp2_with (fail)
           go_roundw
           case rel=>exact⟨i+1,_,by omega,by go_num,HOKN.out.succ HXI.out ⟨.inl rfl,HY.out.symm⟩,rfl⟩
           case measure=>simp[intOf];omega
         · by_cases h1:x=a
           · subst h1
             have b0:(x != 0)=true:=by simp[h0]
             go_wp2_with (fail)
             go_quiet (fail)
             go_wp2_with (fail)
             go_roundw
             case rel=>exact⟨i+1,_,by omega,by go_num,HOKN.out.succ HXI.out ⟨.inr rfl,HY.out.symm⟩,rfl⟩
             case measure=>simp[intOf];omega
           · have b0:(a != 0)=true:=by simp[h0]
             have b1:(x != a)=true:=by simp[h1]
             go_wp2_with (fail)
             go_quiet (fail)
             go_wp2_with (fail)
             go_ret2
             have hrr:=HPRE.out
             rw[HTA.out,HR.out]at hrr
             dsimp only at hrr
             rw[ku (by decide),HAA.out,vE HXI.out (by rw[HY.out];intro hc;exact hc.1.elim h0 h1),if_neg (by decide)]at hrr
             subst hrr
             exact⟨rfl,bdN (bdN HWR.out _) _⟩
       · have b2:(x != y)=true:=by simp[h2]
         by_cases h0:a=0
         · subst h0
           go_wp2_with (fail)
           go_quiet (fail)
           go_wp2_with (fail)
           go_ret2
           have hrr:=HPRE.out
           rw[HTA.out,HR.out]at hrr
           dsimp only at hrr
           rw[ku (by decide),HAA.out,vE HXI.out (by rw[HY.out];intro hc;exact h2 hc.2),if_neg (by decide)]at hrr
           subst hrr
           exact⟨rfl,bdN (bdN HWR.out _) _⟩
         · by_cases h1:x=a
           · subst h1
             have b0:(x != 0)=true:=by simp[h0]
             go_wp2_with (fail)
             go_quiet (fail)
             go_wp2_with (fail)
             go_ret2
             have hrr:=HPRE.out
             rw[HTA.out,HR.out]at hrr
             dsimp only at hrr
             rw[ku (by decide),HAA.out,vE HXI.out (by rw[HY.out];intro hc;exact h2 hc.2),if_neg (by decide)]at hrr
             subst hrr
             exact⟨rfl,bdN (bdN HWR.out _) _⟩
           · have b0:(a != 0)=true:=by simp[h0]
             have b1:(x != a)=true:=by simp[h1]
             go_wp2_with (fail)
             go_quiet (fail)
             go_wp2_with (fail)
             go_ret2
             have hrr:=HPRE.out
             rw[HTA.out,HR.out]at hrr
             dsimp only at hrr
             rw[ku (by decide),HAA.out,vE HXI.out (by rw[HY.out];intro hc;exact h2 hc.2),if_neg (by decide)]at hrr
             subst hrr
             exact⟨rfl,bdN (bdN HWR.out _) _⟩
     · have hil:i=args.length:=by omega
       subst hil
       go_wp2_with (fail)
       go_ret2
       have hrr:=HPRE.out
       rw[HTA.out,HR.out]at hrr
       dsimp only at hrr
       rw[ku (by decide),HAA.out,OkN.all (by rw[hll];exact HOKN.out),if_pos rfl]at hrr
       subst hrr
       exact⟨rfl,bdN HWR.out _⟩
set_option maxHeartbeats 1600000 in
theorem rtype_two (m:Nat) (ih:RTC m) (B:Nat) (p:Pr) (vars:List Pa) (op n:Int) (s:ByteArray) (args:List Ex) (r:Int × Int) (va v0 v1 v:Value) (w:World) (hk:z6 5 op n s args.length=true) (hm:zo args m=true) (hp:Few p) (hE:REnv B p vars v0 v1 v w) (hx:kf B w va args)
 (h8:args.length≤8) (hr:zq p vars (.mk 5 op n s args)=r):
 Calls Tryd.prog 33 #[.agg #[v0,v1],v,.agg #[.int .i64 5,.int .i64 op,.int .i64 n,.string s,va]] w fun e w'=>e=.returned (.tuple #[.int .i64 r.1,.int .i64 r.2])∧Below w.heap.size w w':=by
 have HPRE:=hid (show zq p vars (.mk 5 op n s args)=(match zV p vars args with | .inl e=>(0,e) | .inr l=>qH p vars 5 op s l) by rw[jr,show kJ p vars 5 s=true from rfl,show jn p 5 s args.length=true from rfl];rfl)
 obtain⟨A0,c0,A1,c1,A2,c2,rfl,rfl,rfl⟩:=hE.form
 obtain⟨A,c,rfl,hn⟩:=hx.form
 obtain⟨i0,hi,hz0,hz1,hz2⟩:=info_parts kM
 have HI0:=hid (And.intro hi (And.intro hz0 (And.intro hz1 hz2)))
 obtain⟨z,hzz⟩:∃ z,jQ (qF p.funcs s)=z:=⟨_,rfl⟩
 have HZ:=hid hzz
 clear hzz
 obtain⟨t0,htt⟩:∃ z,(zi vars s).getD 0=z:=⟨_,rfl⟩
 have HT:=hid htt
 clear htt
 obtain⟨vb,hvb⟩:∃ z,(zi vars s).isSome=z:=⟨_,rfl⟩
 have HVB:=hid hvb
 clear hvb
 have HE:=hid hE
 have HP:=hid hp
 have HR:=hid hr
 have HM:=hid hm
 have HX:=hid hx
 have HIH:=hid ih
 have HW0:=hid (show Below w.heap.size w ((w.alloc (ze A0 p.arrays.length c0 A1 p.funcs.length c1)).alloc (qO 5 op n s A args.length c)) from((Below.refl _ _).alloc (Nat.le_refl _) _).alloc (by simp) _)
 have HXP:=hid (show ((w.alloc (ze A0 p.arrays.length c0 A1 p.funcs.length c1)).alloc (qO 5 op n s A args.length c)).heap[w.heap.size]? =some (ze A0 p.arrays.length c0 A1 p.funcs.length c1) from(Below.heap_alloc _ _ _ (by simp)).trans (heap_alloc_new w _))
 have HXX:=hid (show ((w.alloc (ze A0 p.arrays.length c0 A1 p.funcs.length c1)).alloc (qO 5 op n s A args.length c)).heap[w.heap.size+1]? =some (qO 5 op n s A args.length c) from by simpa using heap_alloc_new (w.alloc (ze A0 p.arrays.length c0 A1 p.funcs.length c1)) (qO 5 op n s A args.length c))
 clear hE hp hk hx hr hi hz0 hz1 hz2 hm ih
 go_enter Tryd.func33,Tryd.ntmps33
 go_wp2_with (first
  | (go_at_call 54
     have hE2:=HE.out.below (HW0.out.mono HE.out.hB)
     (with_reducible refine(qU B p s _ HZ.out _ _ _ hE2.hB hE2.ha hE2.hf).mono ?_)
     rintro e w1 ⟨rfl,hb⟩
     have hx1:=(hb.block (w.heap.size+1) (by simp)).trans HXX.out
     have hx0:=(hb.block w.heap.size (by simp;omega)).trans HXP.out
     obtain⟨e0,e1,e2,e3,e4⟩:=qP hx1
     obtain⟨⟨q0,q1⟩,qz⟩:=zE hx0
     have hs1:w.heap.size+1<w1.heap.size:=zB hx1
     have hs0:w.heap.size<w1.heap.size:=by omega
     have HX0:=hid hx0
     have HX1:=hid hx1
     have hbw1:Below w.heap.size w w1:=HW0.out.trans (hb.mono (by simp;omega))
     have HB1:=hid hbw1
     have HE1:=hid (HE.out.below (hbw1.mono HE.out.hB))
     clear hb hE2 hx1 hx0 hbw1)
  | (go_at_call 28
     (with_reducible refine(qd B vars s _ _ HT.out HVB.out _ _ HE1.out.hB HE1.out.hv).mono ?_)
     rintro e w9 ⟨rfl,rfl⟩))
 go_quiet (fail)
 go_wp2_with (fail)
 go_loopw [11,12] (fun lv iv wr=>∃ (j:Nat) (l:List Int),j≤args.length∧iv=.int .i64 j∧l.length=j∧zV p vars (args.take j)=.inr l∧wr.ownsRow w1.heap.size 3 1 lv j (l.map (Value.int .i64))∧Below w1.heap.size w1 wr) (fun _ iv _=>args.length-(intOf iv).toNat)
 case atStart=>exact⟨0,[],Nat.zero_le _,rfl,rfl,by rw[List.take_zero,zV],World.ownsRow_nil _ _ _ _,bdN (Below.refl _ _) _⟩
 case round=>
  obtain⟨j,l,hj,rfl,hll,hte,ho,hbw⟩:=hrel
  obtain⟨A4,c4,rfl⟩:=zp ho
  have hsz:=hbw.size
  have hwr:Below w.heap.size w wr:=HB1.out.trans (hbw.mono (by omega))
  obtain⟨⟨r0,r1⟩,_⟩:=zE ((hbw.block w.heap.size (by omega)).trans HX0.out)
  obtain⟨d0,d1,d2,d3,d4⟩:=qP ((hbw.block (w.heap.size+1) (by omega)).trans HX1.out)
  have HBW:=hid hbw
  have HWR:=hid hwr
  have HO:=hid ho
  have HTE:=hid hte
  have HER:=hid (HE.out.below (hwr.mono HE.out.hB))
  have hss0:w.heap.size<wr.heap.size:=by omega
  have hss1:w.heap.size+1<wr.heap.size:=by omega
  clear hbw hwr ho hte
  by_cases hlt:j<args.length
  · obtain⟨⟨k',op',n',s',as'⟩,he⟩:∃ e,args[j]? =some e:=⟨_,List.getElem?_eq_getElem hlt⟩
    obtain⟨g,o,v',rfl,hg,y0,y1,y2,y3,y4,hsl⟩:=(HX.out.below (HWR.out.mono HE.out.hB) (Nat.le_refl _)).cells he
    obtain⟨A5,c5,rfl,_⟩:=hsl.form
    have HEX:=hid (show vB B wr (.mk k' op' n' s' as') (.agg #[.int .i64 k',.int .i64 op',.int .i64 n',.string s',.slice A5 as'.length c5]) from⟨_,rfl,(HX.out.below (HWR.out.mono HE.out.hB) (Nat.le_refl _)).range he,hsl⟩)
    have hgs:g<wr.heap.size:=by have:=HE.out.hB;omega
    obtain⟨⟨t,f⟩,htf⟩:∃ r,zq p vars (.mk k' op' n' s' as')=r:=⟨_,rfl⟩
    have HTF:=hid htf
    have HOK:=hid (qJ HM.out he)
    have HEE:=hid he
    clear hsl htf he
    by_cases hf0:f=0
    all_goals (try subst hf0)
    all_goals
     go_wp2_with (fail)
     go_region_held3 (fun w'=>w'.cell? ⟨w.heap.size,0,none⟩=some (.slice A0 p.arrays.length c0)∧w'.cell? ⟨w.heap.size,1,none⟩=some (.slice A1 p.funcs.length c1)∧w'.cell? ⟨w.heap.size+1,4,none⟩=some (.slice (some ⟨g,o,none⟩) args.length c)∧w'.cell? ⟨g,o+j * 5,none⟩=some (.int .i64 k')∧w'.cell? ⟨g,o+j * 5+1,none⟩=some (.int .i64 op')∧w'.cell? ⟨g,o+j * 5+2,none⟩=some (.int .i64 n')∧w'.cell? ⟨g,o+j * 5+3,none⟩=some (.string s')∧w'.cell? ⟨g,o+j * 5+4,none⟩=some (.slice A5 as'.length c5))
      (first
        | (go_split_ands;refine⟨?_,?_,?_,?_,?_,?_,?_,?_⟩ <;> (first | (rw[hk5];assumption) | (rw[hx5];assumption) | (rw[hg5];assumption)))
        | go_keep)
      (first
        | (go_at_call 33
           (refine(HIH.out.call (w:=wr.drew) HOK.out HP.out HTF.out (HER.out.below (Below.refl _ _).drew) (HEX.out.below (Below.refl _ _).drew (Nat.le_refl _))).mono ?_)
           rintro e w5 ⟨rfl,hb⟩
           have hb5:Below wr.heap.size wr w5:=(Below.refl _ _).drew.trans hb
           have hz5:wr.heap.size≤w5.heap.size:=hb5.size
           have hk5:∀ k,w5.cell? ⟨w.heap.size,k,none⟩=wr.cell? ⟨w.heap.size,k,none⟩:=fun k=>hb5.cell (p:=⟨w.heap.size,k,none⟩) hss0
           have hx5:∀ k,w5.cell? ⟨w.heap.size+1,k,none⟩=wr.cell? ⟨w.heap.size+1,k,none⟩:=fun k=>hb5.cell (p:=⟨w.heap.size+1,k,none⟩) hss1
           have hg5:∀ k,w5.cell? ⟨g,k,none⟩=wr.cell? ⟨g,k,none⟩:=fun k=>hb5.cell (p:=⟨g,k,none⟩) hgs
           have HB5:=hid hb5
           have HO5:=hid (zh (zZ HO.out fun k hk=>hb5.block k (zH HO.out k hk).2) (.cells #[.int .i64 t] 3))
           have HN5:=hid (kh w5 [.int .i64 t] 3)
           clear hb hb5))
    · go_wp2_with (at_builtin;refine wpList_append_own _ rfl (.tmp 97) (.tmp 99) _ rfl w1.heap.size 3 i0 _ 1 8 Tryd.underlying100 HI0.out.1 HI0.out.2.1 HI0.out.2.2.1 HI0.out.2.2.2 rfl (by omega) (.slice A4 j c4) j _ rfl (by exact HO5.out) ⟨w5.heap.size,0,none⟩ 1 1 [.int .i64 t] rfl rfl (by exact HN5.out) (by simp[Value.oneCell']) (by simp only[maxLen];omega) (by omega) (by simp;omega) ?_
                   intro v6 w6 hown6 hg6 _
                   have HG6:=hid hg6
                   have HO6:=hid hown6
                   clear hown6 hg6)
      go_roundw
      case rel=>
       refine⟨j+1,l++[t],by omega,by go_num,by simp[hll],?_,?_,?_⟩
       · have:=jq HTE.out HEE.out (by rw[HTF.out])
         rwa [HTF.out]at this
       · rw[←xN];exact HO6.out
       · exact((HBW.out.trans (HB5.out.mono (by omega))).alloc (by omega) _).grown HG6.out (by simp;omega) fun k hk=>(zH HO5.out k hk).1
      case measure=>simp[intOf];omega
    · go_wp2_with (fail)
      go_ret2
      have hrr:=HPRE.out
      rw[ki HTE.out HEE.out (by rw[HTF.out];exact hf0),HTF.out]at hrr
      rw[HR.out]at hrr
      subst hrr
      exact⟨rfl,HWR.out.trans (HB5.out.mono (by omega))⟩
  · have hjl:j=args.length:=by omega
    subst hjl
    have HTA:=hid (show zV p vars args=.inr l by have:=HTE.out;rwa [List.take_of_length_le (Nat.le_refl _)]at this)
    clear HTE hj hlt
    go_wp2_with (go_at_call 58;(with_reducible refine(operand_any op _).mono ?_);rintro e w9 ⟨rfl,rfl⟩)
    obtain⟨a,haa⟩:∃ a,qq op=a:=⟨_,rfl⟩
    have HAA:=hid haa
    have HOL:=hid (zZ (w':=wr) HO.out fun _ _=>rfl)
    rw[haa]
    clear haa
    go_loopw [18] (fun iv wr2=>∃ i nq:Nat,i≤args.length∧iv=.int .i64 i∧OkN a l i∧wr2=wr.drewN nq) (fun iv _=>args.length-(intOf iv).toNat)
    case atStart=>exact⟨0,0,Nat.zero_le _,rfl,OkN.zero _ _,rfl⟩
    case round=>
     obtain⟨i,nq,hi,rfl,hok,rfl⟩:=hrel
     have HOKN:=hid hok
     clear hok
     by_cases hlt:i<args.length
     · obtain⟨x,hx⟩:∃ e,l[i]? =some e:=⟨_,List.getElem?_eq_getElem (by omega)⟩
       have hh:l[0]? =some (l.headD 0):=by
        cases l with
        | nil=>simp at hx
        | cons a r=>rfl
       obtain⟨y,hy⟩:∃ y,l.headD 0=y:=⟨_,rfl⟩
       rw[hy]at hh
       obtain⟨gl,c7,hA4,hgl⟩:∃ g c,Value.slice A4 args.length c4=.slice (some ⟨g,0,none⟩) args.length c∧g<wr.heap.size:=by
        rcases HO.out.2 with⟨_,h0⟩ | ⟨g,cap,cur,hv,_,h2,_⟩
        · omega
        · exact⟨g,cap,hv,zB h2⟩
       injection hA4 with hA4 _ hc4
       subst hA4 hc4
       have hx0:wr.cell? ⟨gl,i,none⟩=some (.int .i64 x):=(HO.out.cellAt i (by omega)).trans (by rw[List.getElem?_map,hx];rfl)
       have hx1:wr.cell? ⟨gl,0,none⟩=some (.int .i64 y):=(HO.out.cellAt 0 (by omega)).trans (by rw[List.getElem?_map,hh];rfl)
       have HXI:=hid hx
       have HY:=hid hy
       clear hx hh hy
       by_cases h2:x=y
       · subst h2
         by_cases h0:a=0
         · subst h0
           go_wp2_with (fail)
           go_quiet (fail)
           go_wp2_with (fail)
           go_roundw
           case rel=>exact⟨i+1,_,by omega,by go_num,HOKN.out.succ HXI.out ⟨.inl rfl,HY.out.symm⟩,rfl⟩
           case measure=>simp[intOf];omega
         · by_cases h1:x=a
           · subst h1
             have b0:(x != 0)=true:=by simp[h0]
             go_wp2_with (fail)
             go_quiet (fail)
             go_wp2_with (fail)
             go_roundw
             case rel=>exact⟨i+1,_,by omega,by go_num,HOKN.out.succ HXI.out ⟨.inr rfl,HY.out.symm⟩,rfl⟩
             case measure=>simp[intOf];omega
           · have b0:(a != 0)=true:=by simp[h0]
             have b1:(x != a)=true:=by simp[h1]
             go_wp2_with (fail)
             go_quiet (fail)
             go_wp2_with (fail)
             go_ret2
             have hrr:=HPRE.out
             rw[HTA.out,HR.out]at hrr
             dsimp only at hrr
             rw[ku (by decide),HAA.out,vE HXI.out (by rw[HY.out];intro hc;exact hc.1.elim h0 h1),if_neg (by decide)]at hrr
             subst hrr
             exact⟨rfl,bdN (bdN HWR.out _) _⟩
       · have b2:(x != y)=true:=by simp[h2]
         by_cases h0:a=0
         · subst h0
           go_wp2_with (fail)
           go_quiet (fail)
           go_wp2_with (fail)
           go_ret2
           have hrr:=HPRE.out
           rw[HTA.out,HR.out]at hrr
           dsimp only at hrr
           rw[ku (by decide),HAA.out,vE HXI.out (by rw[HY.out];intro hc;exact h2 hc.2),if_neg (by decide)]at hrr
           subst hrr
           exact⟨rfl,bdN (bdN HWR.out _) _⟩
         · by_cases h1:x=a
           · subst h1
             have b0:(x != 0)=true:=by simp[h0]
             go_wp2_with (fail)
             go_quiet (fail)
             go_wp2_with (fail)
             go_ret2
             have hrr:=HPRE.out
             rw[HTA.out,HR.out]at hrr
             dsimp only at hrr
             rw[ku (by decide),HAA.out,vE HXI.out (by rw[HY.out];intro hc;exact h2 hc.2),if_neg (by decide)]at hrr
             subst hrr
             exact⟨rfl,bdN (bdN HWR.out _) _⟩
           · have b0:(a != 0)=true:=by simp[h0]
             have b1:(x != a)=true:=by simp[h1]
             go_wp2_with (fail)
             go_quiet (fail)
             go_wp2_with (fail)
             go_ret2
             have hrr:=HPRE.out
             rw[HTA.out,HR.out]at hrr
             dsimp only at hrr
             rw[ku (by decide),HAA.out,vE HXI.out (by rw[HY.out];intro hc;exact h2 hc.2),if_neg (by decide)]at hrr
             subst hrr
             exact⟨rfl,bdN (bdN HWR.out _) _⟩
     · have hil:i=args.length:=by omega
       subst hil
       go_wp2_with (fail)
       go_ret2
       have hrr:=HPRE.out
       rw[HTA.out,HR.out]at hrr
       dsimp only at hrr
       rw[ku (by decide),HAA.out,OkN.all (by rw[hll];exact HOKN.out),if_pos rfl]at hrr
       subst hrr
       exact⟨rfl,bdN HWR.out _⟩
set_option maxHeartbeats 1600000 in
theorem rtype_num (m:Nat) (ih:RTC m) (B:Nat) (p:Pr) (vars:List Pa) (op n:Int) (s:ByteArray) (args:List Ex) (r:Int × Int) (va v0 v1 v:Value) (w:World) (hk:z6 1 op n s args.length=true) (hm:zo args m=true) (hp:Few p) (hE:REnv B p vars v0 v1 v w) (hx:kf B w va args)
 (h8:args.length≤8) (hr:zq p vars (.mk 1 op n s args)=r):
 Calls Tryd.prog 33 #[.agg #[v0,v1],v,.agg #[.int .i64 1,.int .i64 op,.int .i64 n,.string s,va]] w fun e w'=>e=.returned (.tuple #[.int .i64 r.1,.int .i64 r.2])∧Below w.heap.size w w':=by
 have HPRE:=hid (show zq p vars (.mk 1 op n s args)=(match zV p vars args with | .inl e=>(0,e) | .inr l=>qH p vars 1 op s l) by rw[jr,show kJ p vars 1 s=true from rfl,show jn p 1 s args.length=true from rfl];rfl)
 obtain⟨A0,c0,A1,c1,A2,c2,rfl,rfl,rfl⟩:=hE.form
 obtain⟨A,c,rfl,hn⟩:=hx.form
 obtain⟨i0,hi,hz0,hz1,hz2⟩:=info_parts kM
 have HI0:=hid (And.intro hi (And.intro hz0 (And.intro hz1 hz2)))
 obtain⟨z,hzz⟩:∃ z,jQ (qF p.funcs s)=z:=⟨_,rfl⟩
 have HZ:=hid hzz
 clear hzz
 obtain⟨t0,htt⟩:∃ z,(zi vars s).getD 0=z:=⟨_,rfl⟩
 have HT:=hid htt
 clear htt
 obtain⟨vb,hvb⟩:∃ z,(zi vars s).isSome=z:=⟨_,rfl⟩
 have HVB:=hid hvb
 clear hvb
 have HE:=hid hE
 have HP:=hid hp
 have HR:=hid hr
 have HM:=hid hm
 have HX:=hid hx
 have HIH:=hid ih
 have HW0:=hid (show Below w.heap.size w ((w.alloc (ze A0 p.arrays.length c0 A1 p.funcs.length c1)).alloc (qO 1 op n s A args.length c)) from((Below.refl _ _).alloc (Nat.le_refl _) _).alloc (by simp) _)
 have HXP:=hid (show ((w.alloc (ze A0 p.arrays.length c0 A1 p.funcs.length c1)).alloc (qO 1 op n s A args.length c)).heap[w.heap.size]? =some (ze A0 p.arrays.length c0 A1 p.funcs.length c1) from(Below.heap_alloc _ _ _ (by simp)).trans (heap_alloc_new w _))
 have HXX:=hid (show ((w.alloc (ze A0 p.arrays.length c0 A1 p.funcs.length c1)).alloc (qO 1 op n s A args.length c)).heap[w.heap.size+1]? =some (qO 1 op n s A args.length c) from by simpa using heap_alloc_new (w.alloc (ze A0 p.arrays.length c0 A1 p.funcs.length c1)) (qO 1 op n s A args.length c))
 clear hE hp hk hx hr hi hz0 hz1 hz2 hm ih
 go_enter Tryd.func33,Tryd.ntmps33
 go_wp2_with (first
  | (go_at_call 54
     have hE2:=HE.out.below (HW0.out.mono HE.out.hB)
     (with_reducible refine(qU B p s _ HZ.out _ _ _ hE2.hB hE2.ha hE2.hf).mono ?_)
     rintro e w1 ⟨rfl,hb⟩
     have hx1:=(hb.block (w.heap.size+1) (by simp)).trans HXX.out
     have hx0:=(hb.block w.heap.size (by simp;omega)).trans HXP.out
     obtain⟨e0,e1,e2,e3,e4⟩:=qP hx1
     obtain⟨⟨q0,q1⟩,qz⟩:=zE hx0
     have hs1:w.heap.size+1<w1.heap.size:=zB hx1
     have hs0:w.heap.size<w1.heap.size:=by omega
     have HX0:=hid hx0
     have HX1:=hid hx1
     have hbw1:Below w.heap.size w w1:=HW0.out.trans (hb.mono (by simp;omega))
     have HB1:=hid hbw1
     have HE1:=hid (HE.out.below (hbw1.mono HE.out.hB))
     clear hb hE2 hx1 hx0 hbw1)
  | (go_at_call 28
     (with_reducible refine(qd B vars s _ _ HT.out HVB.out _ _ HE1.out.hB HE1.out.hv).mono ?_)
     rintro e w9 ⟨rfl,rfl⟩))
 go_quiet (fail)
 go_wp2_with (fail)
 go_loopw [11,12] (fun lv iv wr=>∃ (j:Nat) (l:List Int),j≤args.length∧iv=.int .i64 j∧l.length=j∧zV p vars (args.take j)=.inr l∧wr.ownsRow w1.heap.size 3 1 lv j (l.map (Value.int .i64))∧Below w1.heap.size w1 wr) (fun _ iv _=>args.length-(intOf iv).toNat)
 case atStart=>exact⟨0,[],Nat.zero_le _,rfl,rfl,by rw[List.take_zero,zV],World.ownsRow_nil _ _ _ _,bdN (Below.refl _ _) _⟩
 case round=>
  obtain⟨j,l,hj,rfl,hll,hte,ho,hbw⟩:=hrel
  obtain⟨A4,c4,rfl⟩:=zp ho
  have hsz:=hbw.size
  have hwr:Below w.heap.size w wr:=HB1.out.trans (hbw.mono (by omega))
  obtain⟨⟨r0,r1⟩,_⟩:=zE ((hbw.block w.heap.size (by omega)).trans HX0.out)
  obtain⟨d0,d1,d2,d3,d4⟩:=qP ((hbw.block (w.heap.size+1) (by omega)).trans HX1.out)
  have HBW:=hid hbw
  have HWR:=hid hwr
  have HO:=hid ho
  have HTE:=hid hte
  have HER:=hid (HE.out.below (hwr.mono HE.out.hB))
  have hss0:w.heap.size<wr.heap.size:=by omega
  have hss1:w.heap.size+1<wr.heap.size:=by omega
  clear hbw hwr ho hte
  by_cases hlt:j<args.length
  · obtain⟨⟨k',op',n',s',as'⟩,he⟩:∃ e,args[j]? =some e:=⟨_,List.getElem?_eq_getElem hlt⟩
    obtain⟨g,o,v',rfl,hg,y0,y1,y2,y3,y4,hsl⟩:=(HX.out.below (HWR.out.mono HE.out.hB) (Nat.le_refl _)).cells he
    obtain⟨A5,c5,rfl,_⟩:=hsl.form
    have HEX:=hid (show vB B wr (.mk k' op' n' s' as') (.agg #[.int .i64 k',.int .i64 op',.int .i64 n',.string s',.slice A5 as'.length c5]) from⟨_,rfl,(HX.out.below (HWR.out.mono HE.out.hB) (Nat.le_refl _)).range he,hsl⟩)
    have hgs:g<wr.heap.size:=by have:=HE.out.hB;omega
    obtain⟨⟨t,f⟩,htf⟩:∃ r,zq p vars (.mk k' op' n' s' as')=r:=⟨_,rfl⟩
    have HTF:=hid htf
    have HOK:=hid (qJ HM.out he)
    have HEE:=hid he
    clear hsl htf he
    by_cases hf0:f=0
    all_goals (try subst hf0)
    all_goals
     go_wp2_with (fail)
     go_region_held3 (fun w'=>w'.cell? ⟨w.heap.size,0,none⟩=some (.slice A0 p.arrays.length c0)∧w'.cell? ⟨w.heap.size,1,none⟩=some (.slice A1 p.funcs.length c1)∧w'.cell? ⟨w.heap.size+1,4,none⟩=some (.slice (some ⟨g,o,none⟩) args.length c)∧w'.cell? ⟨g,o+j * 5,none⟩=some (.int .i64 k')∧w'.cell? ⟨g,o+j * 5+1,none⟩=some (.int .i64 op')∧w'.cell? ⟨g,o+j * 5+2,none⟩=some (.int .i64 n')∧w'.cell? ⟨g,o+j * 5+3,none⟩=some (.string s')∧w'.cell? ⟨g,o+j * 5+4,none⟩=some (.slice A5 as'.length c5))
      (first
        | (go_split_ands;refine⟨?_,?_,?_,?_,?_,?_,?_,?_⟩ <;> (first | (rw[hk5];assumption) | (rw[hx5];assumption) | (rw[hg5];assumption)))
        | go_keep)
      (first
        | (go_at_call 33
           (refine(HIH.out.call (w:=wr.drew) HOK.out HP.out HTF.out (HER.out.below (Below.refl _ _).drew) (HEX.out.below (Below.refl _ _).drew (Nat.le_refl _))).mono ?_)
           rintro e w5 ⟨rfl,hb⟩
           have hb5:Below wr.heap.size wr w5:=(Below.refl _ _).drew.trans hb
           have hz5:wr.heap.size≤w5.heap.size:=hb5.size
           have hk5:∀ k,w5.cell? ⟨w.heap.size,k,none⟩=wr.cell? ⟨w.heap.size,k,none⟩:=fun k=>hb5.cell (p:=⟨w.heap.size,k,none⟩) hss0
           have hx5:∀ k,w5.cell? ⟨w.heap.size+1,k,none⟩=wr.cell? ⟨w.heap.size+1,k,none⟩:=fun k=>hb5.cell (p:=⟨w.heap.size+1,k,none⟩) hss1
           have hg5:∀ k,w5.cell? ⟨g,k,none⟩=wr.cell? ⟨g,k,none⟩:=fun k=>hb5.cell (p:=⟨g,k,none⟩) hgs
           have HB5:=hid hb5
           have HO5:=hid (zh (zZ HO.out fun k hk=>hb5.block k (zH HO.out k hk).2) (.cells #[.int .i64 t] 3))
           have HN5:=hid (kh w5 [.int .i64 t] 3)
           clear hb hb5))
    · go_wp2_with (at_builtin;refine wpList_append_own _ rfl (.tmp 97) (.tmp 99) _ rfl w1.heap.size 3 i0 _ 1 8 Tryd.underlying100 HI0.out.1 HI0.out.2.1 HI0.out.2.2.1 HI0.out.2.2.2 rfl (by omega) (.slice A4 j c4) j _ rfl (by exact HO5.out) ⟨w5.heap.size,0,none⟩ 1 1 [.int .i64 t] rfl rfl (by exact HN5.out) (by simp[Value.oneCell']) (by simp only[maxLen];omega) (by omega) (by simp;omega) ?_
                   intro v6 w6 hown6 hg6 _
                   have HG6:=hid hg6
                   have HO6:=hid hown6
                   clear hown6 hg6)
      go_roundw
      case rel=>
       refine⟨j+1,l++[t],by omega,by go_num,by simp[hll],?_,?_,?_⟩
       · have:=jq HTE.out HEE.out (by rw[HTF.out])
         rwa [HTF.out]at this
       · rw[←xN];exact HO6.out
       · exact((HBW.out.trans (HB5.out.mono (by omega))).alloc (by omega) _).grown HG6.out (by simp;omega) fun k hk=>(zH HO5.out k hk).1
      case measure=>simp[intOf];omega
    · go_wp2_with (fail)
      go_ret2
      have hrr:=HPRE.out
      rw[ki HTE.out HEE.out (by rw[HTF.out];exact hf0),HTF.out]at hrr
      rw[HR.out]at hrr
      subst hrr
      exact⟨rfl,HWR.out.trans (HB5.out.mono (by omega))⟩
  · have hjl:j=args.length:=by omega
    subst hjl
    have HTA:=hid (show zV p vars args=.inr l by have:=HTE.out;rwa [List.take_of_length_le (Nat.le_refl _)]at this)
    clear HTE hj hlt
    go_wp2_with (fail)
    go_ret2
    have hrr:=HPRE.out
    rw[HTA.out,HR.out]at hrr
    dsimp only at hrr
    rw[show qH p vars 1 op s l=(1,0) from rfl]at hrr
    subst hrr
    exact⟨rfl,HWR.out⟩
set_option maxHeartbeats 1600000 in
theorem rtype_read (m:Nat) (ih:RTC m) (B:Nat) (p:Pr) (vars:List Pa) (op n:Int) (s:ByteArray) (args:List Ex) (r:Int × Int) (va v0 v1 v:Value) (w:World) (hk:z6 8 op n s args.length=true) (hm:zo args m=true) (hp:Few p) (hE:REnv B p vars v0 v1 v w) (hx:kf B w va args)
 (h8:args.length≤8) (hr:zq p vars (.mk 8 op n s args)=r):
 Calls Tryd.prog 33 #[.agg #[v0,v1],v,.agg #[.int .i64 8,.int .i64 op,.int .i64 n,.string s,va]] w fun e w'=>e=.returned (.tuple #[.int .i64 r.1,.int .i64 r.2])∧Below w.heap.size w w':=by
 have HPRE:=hid (show zq p vars (.mk 8 op n s args)=(match zV p vars args with | .inl e=>(0,e) | .inr l=>qH p vars 8 op s l) by rw[jr,show kJ p vars 8 s=true from rfl,show jn p 8 s args.length=true from rfl];rfl)
 obtain⟨A0,c0,A1,c1,A2,c2,rfl,rfl,rfl⟩:=hE.form
 obtain⟨A,c,rfl,hn⟩:=hx.form
 obtain⟨i0,hi,hz0,hz1,hz2⟩:=info_parts kM
 have HI0:=hid (And.intro hi (And.intro hz0 (And.intro hz1 hz2)))
 obtain⟨z,hzz⟩:∃ z,jQ (qF p.funcs s)=z:=⟨_,rfl⟩
 have HZ:=hid hzz
 clear hzz
 obtain⟨t0,htt⟩:∃ z,(zi vars s).getD 0=z:=⟨_,rfl⟩
 have HT:=hid htt
 clear htt
 obtain⟨vb,hvb⟩:∃ z,(zi vars s).isSome=z:=⟨_,rfl⟩
 have HVB:=hid hvb
 clear hvb
 have HE:=hid hE
 have HP:=hid hp
 have HR:=hid hr
 have HM:=hid hm
 have HX:=hid hx
 have HIH:=hid ih
 have HW0:=hid (show Below w.heap.size w ((w.alloc (ze A0 p.arrays.length c0 A1 p.funcs.length c1)).alloc (qO 8 op n s A args.length c)) from((Below.refl _ _).alloc (Nat.le_refl _) _).alloc (by simp) _)
 have HXP:=hid (show ((w.alloc (ze A0 p.arrays.length c0 A1 p.funcs.length c1)).alloc (qO 8 op n s A args.length c)).heap[w.heap.size]? =some (ze A0 p.arrays.length c0 A1 p.funcs.length c1) from(Below.heap_alloc _ _ _ (by simp)).trans (heap_alloc_new w _))
 have HXX:=hid (show ((w.alloc (ze A0 p.arrays.length c0 A1 p.funcs.length c1)).alloc (qO 8 op n s A args.length c)).heap[w.heap.size+1]? =some (qO 8 op n s A args.length c) from by simpa using heap_alloc_new (w.alloc (ze A0 p.arrays.length c0 A1 p.funcs.length c1)) (qO 8 op n s A args.length c))
 clear hE hp hk hx hr hi hz0 hz1 hz2 hm ih
 go_enter Tryd.func33,Tryd.ntmps33
 go_wp2_with (first
  | (go_at_call 54
     have hE2:=HE.out.below (HW0.out.mono HE.out.hB)
     (with_reducible refine(qU B p s _ HZ.out _ _ _ hE2.hB hE2.ha hE2.hf).mono ?_)
     rintro e w1 ⟨rfl,hb⟩
     have hx1:=(hb.block (w.heap.size+1) (by simp)).trans HXX.out
     have hx0:=(hb.block w.heap.size (by simp;omega)).trans HXP.out
     obtain⟨e0,e1,e2,e3,e4⟩:=qP hx1
     obtain⟨⟨q0,q1⟩,qz⟩:=zE hx0
     have hs1:w.heap.size+1<w1.heap.size:=zB hx1
     have hs0:w.heap.size<w1.heap.size:=by omega
     have HX0:=hid hx0
     have HX1:=hid hx1
     have hbw1:Below w.heap.size w w1:=HW0.out.trans (hb.mono (by simp;omega))
     have HB1:=hid hbw1
     have HE1:=hid (HE.out.below (hbw1.mono HE.out.hB))
     clear hb hE2 hx1 hx0 hbw1)
  | (go_at_call 28
     (with_reducible refine(qd B vars s _ _ HT.out HVB.out _ _ HE1.out.hB HE1.out.hv).mono ?_)
     rintro e w9 ⟨rfl,rfl⟩))
 go_quiet (fail)
 go_wp2_with (fail)
 go_loopw [11,12] (fun lv iv wr=>∃ (j:Nat) (l:List Int),j≤args.length∧iv=.int .i64 j∧l.length=j∧zV p vars (args.take j)=.inr l∧wr.ownsRow w1.heap.size 3 1 lv j (l.map (Value.int .i64))∧Below w1.heap.size w1 wr) (fun _ iv _=>args.length-(intOf iv).toNat)
 case atStart=>exact⟨0,[],Nat.zero_le _,rfl,rfl,by rw[List.take_zero,zV],World.ownsRow_nil _ _ _ _,bdN (Below.refl _ _) _⟩
 case round=>
  obtain⟨j,l,hj,rfl,hll,hte,ho,hbw⟩:=hrel
  obtain⟨A4,c4,rfl⟩:=zp ho
  have hsz:=hbw.size
  have hwr:Below w.heap.size w wr:=HB1.out.trans (hbw.mono (by omega))
  obtain⟨⟨r0,r1⟩,_⟩:=zE ((hbw.block w.heap.size (by omega)).trans HX0.out)
  obtain⟨d0,d1,d2,d3,d4⟩:=qP ((hbw.block (w.heap.size+1) (by omega)).trans HX1.out)
  have HBW:=hid hbw
  have HWR:=hid hwr
  have HO:=hid ho
  have HTE:=hid hte
  have HER:=hid (HE.out.below (hwr.mono HE.out.hB))
  have hss0:w.heap.size<wr.heap.size:=by omega
  have hss1:w.heap.size+1<wr.heap.size:=by omega
  clear hbw hwr ho hte
  by_cases hlt:j<args.length
  · obtain⟨⟨k',op',n',s',as'⟩,he⟩:∃ e,args[j]? =some e:=⟨_,List.getElem?_eq_getElem hlt⟩
    obtain⟨g,o,v',rfl,hg,y0,y1,y2,y3,y4,hsl⟩:=(HX.out.below (HWR.out.mono HE.out.hB) (Nat.le_refl _)).cells he
    obtain⟨A5,c5,rfl,_⟩:=hsl.form
    have HEX:=hid (show vB B wr (.mk k' op' n' s' as') (.agg #[.int .i64 k',.int .i64 op',.int .i64 n',.string s',.slice A5 as'.length c5]) from⟨_,rfl,(HX.out.below (HWR.out.mono HE.out.hB) (Nat.le_refl _)).range he,hsl⟩)
    have hgs:g<wr.heap.size:=by have:=HE.out.hB;omega
    obtain⟨⟨t,f⟩,htf⟩:∃ r,zq p vars (.mk k' op' n' s' as')=r:=⟨_,rfl⟩
    have HTF:=hid htf
    have HOK:=hid (qJ HM.out he)
    have HEE:=hid he
    clear hsl htf he
    by_cases hf0:f=0
    all_goals (try subst hf0)
    all_goals
     go_wp2_with (fail)
     go_region_held3 (fun w'=>w'.cell? ⟨w.heap.size,0,none⟩=some (.slice A0 p.arrays.length c0)∧w'.cell? ⟨w.heap.size,1,none⟩=some (.slice A1 p.funcs.length c1)∧w'.cell? ⟨w.heap.size+1,4,none⟩=some (.slice (some ⟨g,o,none⟩) args.length c)∧w'.cell? ⟨g,o+j * 5,none⟩=some (.int .i64 k')∧w'.cell? ⟨g,o+j * 5+1,none⟩=some (.int .i64 op')∧w'.cell? ⟨g,o+j * 5+2,none⟩=some (.int .i64 n')∧w'.cell? ⟨g,o+j * 5+3,none⟩=some (.string s')∧w'.cell? ⟨g,o+j * 5+4,none⟩=some (.slice A5 as'.length c5))
      (first
        | (go_split_ands;refine⟨?_,?_,?_,?_,?_,?_,?_,?_⟩ <;> (first | (rw[hk5];assumption) | (rw[hx5];assumption) | (rw[hg5];assumption)))
        | go_keep)
      (first
        | (go_at_call 33
           (refine(HIH.out.call (w:=wr.drew) HOK.out HP.out HTF.out (HER.out.below (Below.refl _ _).drew) (HEX.out.below (Below.refl _ _).drew (Nat.le_refl _))).mono ?_)
           rintro e w5 ⟨rfl,hb⟩
           have hb5:Below wr.heap.size wr w5:=(Below.refl _ _).drew.trans hb
           have hz5:wr.heap.size≤w5.heap.size:=hb5.size
           have hk5:∀ k,w5.cell? ⟨w.heap.size,k,none⟩=wr.cell? ⟨w.heap.size,k,none⟩:=fun k=>hb5.cell (p:=⟨w.heap.size,k,none⟩) hss0
           have hx5:∀ k,w5.cell? ⟨w.heap.size+1,k,none⟩=wr.cell? ⟨w.heap.size+1,k,none⟩:=fun k=>hb5.cell (p:=⟨w.heap.size+1,k,none⟩) hss1
           have hg5:∀ k,w5.cell? ⟨g,k,none⟩=wr.cell? ⟨g,k,none⟩:=fun k=>hb5.cell (p:=⟨g,k,none⟩) hgs
           have HB5:=hid hb5
           have HO5:=hid (zh (zZ HO.out fun k hk=>hb5.block k (zH HO.out k hk).2) (.cells #[.int .i64 t] 3))
           have HN5:=hid (kh w5 [.int .i64 t] 3)
           clear hb hb5))
    · go_wp2_with (at_builtin;refine wpList_append_own _ rfl (.tmp 97) (.tmp 99) _ rfl w1.heap.size 3 i0 _ 1 8 Tryd.underlying100 HI0.out.1 HI0.out.2.1 HI0.out.2.2.1 HI0.out.2.2.2 rfl (by omega) (.slice A4 j c4) j _ rfl (by exact HO5.out) ⟨w5.heap.size,0,none⟩ 1 1 [.int .i64 t] rfl rfl (by exact HN5.out) (by simp[Value.oneCell']) (by simp only[maxLen];omega) (by omega) (by simp;omega) ?_
                   intro v6 w6 hown6 hg6 _
                   have HG6:=hid hg6
                   have HO6:=hid hown6
                   clear hown6 hg6)
      go_roundw
      case rel=>
       refine⟨j+1,l++[t],by omega,by go_num,by simp[hll],?_,?_,?_⟩
       · have:=jq HTE.out HEE.out (by rw[HTF.out])
         rwa [HTF.out]at this
       · rw[←xN];exact HO6.out
       · exact((HBW.out.trans (HB5.out.mono (by omega))).alloc (by omega) _).grown HG6.out (by simp;omega) fun k hk=>(zH HO5.out k hk).1
      case measure=>simp[intOf];omega
    · go_wp2_with (fail)
      go_ret2
      have hrr:=HPRE.out
      rw[ki HTE.out HEE.out (by rw[HTF.out];exact hf0),HTF.out]at hrr
      rw[HR.out]at hrr
      subst hrr
      exact⟨rfl,HWR.out.trans (HB5.out.mono (by omega))⟩
  · have hjl:j=args.length:=by omega
    subst hjl
    have HTA:=hid (show zV p vars args=.inr l by have:=HTE.out;rwa [List.take_of_length_le (Nat.le_refl _)]at this)
    clear HTE hj hlt
    go_wp2_with (fail)
    go_ret2
    have hrr:=HPRE.out
    rw[HTA.out,HR.out]at hrr
    dsimp only at hrr
    rw[show qH p vars 8 op s l=(1,0) from rfl]at hrr
    subst hrr
    exact⟨rfl,HWR.out⟩
set_option maxHeartbeats 1600000 in
theorem rtype_truth (m:Nat) (ih:RTC m) (B:Nat) (p:Pr) (vars:List Pa) (op n:Int) (s:ByteArray) (args:List Ex) (r:Int × Int) (va v0 v1 v:Value) (w:World) (hk:z6 2 op n s args.length=true) (hm:zo args m=true) (hp:Few p) (hE:REnv B p vars v0 v1 v w) (hx:kf B w va args)
 (h8:args.length≤8) (hr:zq p vars (.mk 2 op n s args)=r):
 Calls Tryd.prog 33 #[.agg #[v0,v1],v,.agg #[.int .i64 2,.int .i64 op,.int .i64 n,.string s,va]] w fun e w'=>e=.returned (.tuple #[.int .i64 r.1,.int .i64 r.2])∧Below w.heap.size w w':=by
 have HPRE:=hid (show zq p vars (.mk 2 op n s args)=(match zV p vars args with | .inl e=>(0,e) | .inr l=>qH p vars 2 op s l) by rw[jr,show kJ p vars 2 s=true from rfl,show jn p 2 s args.length=true from rfl];rfl)
 obtain⟨A0,c0,A1,c1,A2,c2,rfl,rfl,rfl⟩:=hE.form
 obtain⟨A,c,rfl,hn⟩:=hx.form
 obtain⟨i0,hi,hz0,hz1,hz2⟩:=info_parts kM
 have HI0:=hid (And.intro hi (And.intro hz0 (And.intro hz1 hz2)))
 obtain⟨z,hzz⟩:∃ z,jQ (qF p.funcs s)=z:=⟨_,rfl⟩
 have HZ:=hid hzz
 clear hzz
 obtain⟨t0,htt⟩:∃ z,(zi vars s).getD 0=z:=⟨_,rfl⟩
 have HT:=hid htt
 clear htt
 obtain⟨vb,hvb⟩:∃ z,(zi vars s).isSome=z:=⟨_,rfl⟩
 have HVB:=hid hvb
 clear hvb
 have HE:=hid hE
 have HP:=hid hp
 have HR:=hid hr
 have HM:=hid hm
 have HX:=hid hx
 have HIH:=hid ih
 have HW0:=hid (show Below w.heap.size w ((w.alloc (ze A0 p.arrays.length c0 A1 p.funcs.length c1)).alloc (qO 2 op n s A args.length c)) from((Below.refl _ _).alloc (Nat.le_refl _) _).alloc (by simp) _)
 have HXP:=hid (show ((w.alloc (ze A0 p.arrays.length c0 A1 p.funcs.length c1)).alloc (qO 2 op n s A args.length c)).heap[w.heap.size]? =some (ze A0 p.arrays.length c0 A1 p.funcs.length c1) from(Below.heap_alloc _ _ _ (by simp)).trans (heap_alloc_new w _))
 have HXX:=hid (show ((w.alloc (ze A0 p.arrays.length c0 A1 p.funcs.length c1)).alloc (qO 2 op n s A args.length c)).heap[w.heap.size+1]? =some (qO 2 op n s A args.length c) from by simpa using heap_alloc_new (w.alloc (ze A0 p.arrays.length c0 A1 p.funcs.length c1)) (qO 2 op n s A args.length c))
 clear hE hp hk hx hr hi hz0 hz1 hz2 hm ih
 go_enter Tryd.func33,Tryd.ntmps33
 go_wp2_with (first
  | (go_at_call 54
     have hE2:=HE.out.below (HW0.out.mono HE.out.hB)
     (with_reducible refine(qU B p s _ HZ.out _ _ _ hE2.hB hE2.ha hE2.hf).mono ?_)
     rintro e w1 ⟨rfl,hb⟩
     have hx1:=(hb.block (w.heap.size+1) (by simp)).trans HXX.out
     have hx0:=(hb.block w.heap.size (by simp;omega)).trans HXP.out
     obtain⟨e0,e1,e2,e3,e4⟩:=qP hx1
     obtain⟨⟨q0,q1⟩,qz⟩:=zE hx0
     have hs1:w.heap.size+1<w1.heap.size:=zB hx1
     have hs0:w.heap.size<w1.heap.size:=by omega
     have HX0:=hid hx0
     have HX1:=hid hx1
     have hbw1:Below w.heap.size w w1:=HW0.out.trans (hb.mono (by simp;omega))
     have HB1:=hid hbw1
     have HE1:=hid (HE.out.below (hbw1.mono HE.out.hB))
     clear hb hE2 hx1 hx0 hbw1)
  | (go_at_call 28
     (with_reducible refine(qd B vars s _ _ HT.out HVB.out _ _ HE1.out.hB HE1.out.hv).mono ?_)
     rintro e w9 ⟨rfl,rfl⟩))
 go_quiet (fail)
 go_wp2_with (fail)
 go_loopw [11,12] (fun lv iv wr=>∃ (j:Nat) (l:List Int),j≤args.length∧iv=.int .i64 j∧l.length=j∧zV p vars (args.take j)=.inr l∧wr.ownsRow w1.heap.size 3 1 lv j (l.map (Value.int .i64))∧Below w1.heap.size w1 wr) (fun _ iv _=>args.length-(intOf iv).toNat)
 case atStart=>exact⟨0,[],Nat.zero_le _,rfl,rfl,by rw[List.take_zero,zV],World.ownsRow_nil _ _ _ _,bdN (Below.refl _ _) _⟩
 case round=>
  obtain⟨j,l,hj,rfl,hll,hte,ho,hbw⟩:=hrel
  obtain⟨A4,c4,rfl⟩:=zp ho
  have hsz:=hbw.size
  have hwr:Below w.heap.size w wr:=HB1.out.trans (hbw.mono (by omega))
  obtain⟨⟨r0,r1⟩,_⟩:=zE ((hbw.block w.heap.size (by omega)).trans HX0.out)
  obtain⟨d0,d1,d2,d3,d4⟩:=qP ((hbw.block (w.heap.size+1) (by omega)).trans HX1.out)
  have HBW:=hid hbw
  have HWR:=hid hwr
  have HO:=hid ho
  have HTE:=hid hte
  have HER:=hid (HE.out.below (hwr.mono HE.out.hB))
  have hss0:w.heap.size<wr.heap.size:=by omega
  have hss1:w.heap.size+1<wr.heap.size:=by omega
  clear hbw hwr ho hte
  by_cases hlt:j<args.length
  · obtain⟨⟨k',op',n',s',as'⟩,he⟩:∃ e,args[j]? =some e:=⟨_,List.getElem?_eq_getElem hlt⟩
    obtain⟨g,o,v',rfl,hg,y0,y1,y2,y3,y4,hsl⟩:=(HX.out.below (HWR.out.mono HE.out.hB) (Nat.le_refl _)).cells he
    obtain⟨A5,c5,rfl,_⟩:=hsl.form
    have HEX:=hid (show vB B wr (.mk k' op' n' s' as') (.agg #[.int .i64 k',.int .i64 op',.int .i64 n',.string s',.slice A5 as'.length c5]) from⟨_,rfl,(HX.out.below (HWR.out.mono HE.out.hB) (Nat.le_refl _)).range he,hsl⟩)
    have hgs:g<wr.heap.size:=by have:=HE.out.hB;omega
    obtain⟨⟨t,f⟩,htf⟩:∃ r,zq p vars (.mk k' op' n' s' as')=r:=⟨_,rfl⟩
    have HTF:=hid htf
    have HOK:=hid (qJ HM.out he)
    have HEE:=hid he
    clear hsl htf he
    by_cases hf0:f=0
    all_goals (try subst hf0)
    all_goals
     go_wp2_with (fail)
     go_region_held3 (fun w'=>w'.cell? ⟨w.heap.size,0,none⟩=some (.slice A0 p.arrays.length c0)∧w'.cell? ⟨w.heap.size,1,none⟩=some (.slice A1 p.funcs.length c1)∧w'.cell? ⟨w.heap.size+1,4,none⟩=some (.slice (some ⟨g,o,none⟩) args.length c)∧w'.cell? ⟨g,o+j * 5,none⟩=some (.int .i64 k')∧w'.cell? ⟨g,o+j * 5+1,none⟩=some (.int .i64 op')∧w'.cell? ⟨g,o+j * 5+2,none⟩=some (.int .i64 n')∧w'.cell? ⟨g,o+j * 5+3,none⟩=some (.string s')∧w'.cell? ⟨g,o+j * 5+4,none⟩=some (.slice A5 as'.length c5))
      (first
        | (go_split_ands;refine⟨?_,?_,?_,?_,?_,?_,?_,?_⟩ <;> (first | (rw[hk5];assumption) | (rw[hx5];assumption) | (rw[hg5];assumption)))
        | go_keep)
      (first
        | (go_at_call 33
           (refine(HIH.out.call (w:=wr.drew) HOK.out HP.out HTF.out (HER.out.below (Below.refl _ _).drew) (HEX.out.below (Below.refl _ _).drew (Nat.le_refl _))).mono ?_)
           rintro e w5 ⟨rfl,hb⟩
           have hb5:Below wr.heap.size wr w5:=(Below.refl _ _).drew.trans hb
           have hz5:wr.heap.size≤w5.heap.size:=hb5.size
           have hk5:∀ k,w5.cell? ⟨w.heap.size,k,none⟩=wr.cell? ⟨w.heap.size,k,none⟩:=fun k=>hb5.cell (p:=⟨w.heap.size,k,none⟩) hss0
           have hx5:∀ k,w5.cell? ⟨w.heap.size+1,k,none⟩=wr.cell? ⟨w.heap.size+1,k,none⟩:=fun k=>hb5.cell (p:=⟨w.heap.size+1,k,none⟩) hss1
           have hg5:∀ k,w5.cell? ⟨g,k,none⟩=wr.cell? ⟨g,k,none⟩:=fun k=>hb5.cell (p:=⟨g,k,none⟩) hgs
           have HB5:=hid hb5
           have HO5:=hid (zh (zZ HO.out fun k hk=>hb5.block k (zH HO.out k hk).2) (.cells #[.int .i64 t] 3))
           have HN5:=hid (kh w5 [.int .i64 t] 3)
           clear hb hb5))
    · go_wp2_with (at_builtin;refine wpList_append_own _ rfl (.tmp 97) (.tmp 99) _ rfl w1.heap.size 3 i0 _ 1 8 Tryd.underlying100 HI0.out.1 HI0.out.2.1 HI0.out.2.2.1 HI0.out.2.2.2 rfl (by omega) (.slice A4 j c4) j _ rfl (by exact HO5.out) ⟨w5.heap.size,0,none⟩ 1 1 [.int .i64 t] rfl rfl (by exact HN5.out) (by simp[Value.oneCell']) (by simp only[maxLen];omega) (by omega) (by simp;omega) ?_
                   intro v6 w6 hown6 hg6 _
                   have HG6:=hid hg6
                   have HO6:=hid hown6
                   clear hown6 hg6)
      go_roundw
      case rel=>
       refine⟨j+1,l++[t],by omega,by go_num,by simp[hll],?_,?_,?_⟩
       · have:=jq HTE.out HEE.out (by rw[HTF.out])
         rwa [HTF.out]at this
       · rw[←xN];exact HO6.out
       · exact((HBW.out.trans (HB5.out.mono (by omega))).alloc (by omega) _).grown HG6.out (by simp;omega) fun k hk=>(zH HO5.out k hk).1
      case measure=>simp[intOf];omega
    · go_wp2_with (fail)
      go_ret2
      have hrr:=HPRE.out
      rw[ki HTE.out HEE.out (by rw[HTF.out];exact hf0),HTF.out]at hrr
      rw[HR.out]at hrr
      subst hrr
      exact⟨rfl,HWR.out.trans (HB5.out.mono (by omega))⟩
  · have hjl:j=args.length:=by omega
    subst hjl
    have HTA:=hid (show zV p vars args=.inr l by have:=HTE.out;rwa [List.take_of_length_le (Nat.le_refl _)]at this)
    clear HTE hj hlt
    go_wp2_with (fail)
    go_ret2
    have hrr:=HPRE.out
    rw[HTA.out,HR.out]at hrr
    dsimp only at hrr
    rw[show qH p vars 2 op s l=(2,0) from rfl]at hrr
    subst hrr
    exact⟨rfl,HWR.out⟩
set_option maxHeartbeats 1600000 in
theorem rtype_var (m:Nat) (ih:RTC m) (B:Nat) (p:Pr) (vars:List Pa) (op n:Int) (s:ByteArray) (args:List Ex) (r:Int × Int) (va v0 v1 v:Value) (w:World) (hk:z6 3 op n s args.length=true) (hm:zo args m=true) (hp:Few p) (hE:REnv B p vars v0 v1 v w) (hx:kf B w va args)
 (t0:Int) (hvt:zi vars s=some t0) (h8:args.length≤8) (hr:zq p vars (.mk 3 op n s args)=r):
 Calls Tryd.prog 33 #[.agg #[v0,v1],v,.agg #[.int .i64 3,.int .i64 op,.int .i64 n,.string s,va]] w fun e w'=>e=.returned (.tuple #[.int .i64 r.1,.int .i64 r.2])∧Below w.heap.size w w':=by
 have HPRE:=hid (show zq p vars (.mk 3 op n s args)=(match zV p vars args with | .inl e=>(0,e) | .inr l=>qH p vars 3 op s l) by rw[jr,show kJ p vars 3 s=true from by simp[kJ,hvt],show jn p 3 s args.length=true from rfl];rfl)
 obtain⟨A0,c0,A1,c1,A2,c2,rfl,rfl,rfl⟩:=hE.form
 obtain⟨A,c,rfl,hn⟩:=hx.form
 obtain⟨i0,hi,hz0,hz1,hz2⟩:=info_parts kM
 have HI0:=hid (And.intro hi (And.intro hz0 (And.intro hz1 hz2)))
 obtain⟨z,hzz⟩:∃ z,jQ (qF p.funcs s)=z:=⟨_,rfl⟩
 have HZ:=hid hzz
 clear hzz
 have HT:=hid (show (zi vars s).getD 0=t0 by rw[hvt];rfl)
 have HVB:=hid (show (zi vars s).isSome=true by rw[hvt];rfl)
 have HVT:=hid hvt
 clear hvt
 have HE:=hid hE
 have HP:=hid hp
 have HR:=hid hr
 have HM:=hid hm
 have HX:=hid hx
 have HIH:=hid ih
 have HW0:=hid (show Below w.heap.size w ((w.alloc (ze A0 p.arrays.length c0 A1 p.funcs.length c1)).alloc (qO 3 op n s A args.length c)) from((Below.refl _ _).alloc (Nat.le_refl _) _).alloc (by simp) _)
 have HXP:=hid (show ((w.alloc (ze A0 p.arrays.length c0 A1 p.funcs.length c1)).alloc (qO 3 op n s A args.length c)).heap[w.heap.size]? =some (ze A0 p.arrays.length c0 A1 p.funcs.length c1) from(Below.heap_alloc _ _ _ (by simp)).trans (heap_alloc_new w _))
 have HXX:=hid (show ((w.alloc (ze A0 p.arrays.length c0 A1 p.funcs.length c1)).alloc (qO 3 op n s A args.length c)).heap[w.heap.size+1]? =some (qO 3 op n s A args.length c) from by simpa using heap_alloc_new (w.alloc (ze A0 p.arrays.length c0 A1 p.funcs.length c1)) (qO 3 op n s A args.length c))
 clear hE hp hk hx hr hi hz0 hz1 hz2 hm ih
 go_enter Tryd.func33,Tryd.ntmps33
 go_wp2_with (first
  | (go_at_call 54
     have hE2:=HE.out.below (HW0.out.mono HE.out.hB)
     (with_reducible refine(qU B p s _ HZ.out _ _ _ hE2.hB hE2.ha hE2.hf).mono ?_)
     rintro e w1 ⟨rfl,hb⟩
     have hx1:=(hb.block (w.heap.size+1) (by simp)).trans HXX.out
     have hx0:=(hb.block w.heap.size (by simp;omega)).trans HXP.out
     obtain⟨e0,e1,e2,e3,e4⟩:=qP hx1
     obtain⟨⟨q0,q1⟩,qz⟩:=zE hx0
     have hs1:w.heap.size+1<w1.heap.size:=zB hx1
     have hs0:w.heap.size<w1.heap.size:=by omega
     have HX0:=hid hx0
     have HX1:=hid hx1
     have hbw1:Below w.heap.size w w1:=HW0.out.trans (hb.mono (by simp;omega))
     have HB1:=hid hbw1
     have HE1:=hid (HE.out.below (hbw1.mono HE.out.hB))
     clear hb hE2 hx1 hx0 hbw1)
  | (go_at_call 28
     (with_reducible refine(qd B vars s _ _ HT.out HVB.out _ _ HE1.out.hB HE1.out.hv).mono ?_)
     rintro e w9 ⟨rfl,rfl⟩))
 go_quiet (fail)
 go_wp2_with (fail)
 go_loopw [11,12] (fun lv iv wr=>∃ (j:Nat) (l:List Int),j≤args.length∧iv=.int .i64 j∧l.length=j∧zV p vars (args.take j)=.inr l∧wr.ownsRow w1.heap.size 3 1 lv j (l.map (Value.int .i64))∧Below w1.heap.size w1 wr) (fun _ iv _=>args.length-(intOf iv).toNat)
 case atStart=>exact⟨0,[],Nat.zero_le _,rfl,rfl,by rw[List.take_zero,zV],World.ownsRow_nil _ _ _ _,bdN (Below.refl _ _) _⟩
 case round=>
  obtain⟨j,l,hj,rfl,hll,hte,ho,hbw⟩:=hrel
  obtain⟨A4,c4,rfl⟩:=zp ho
  have hsz:=hbw.size
  have hwr:Below w.heap.size w wr:=HB1.out.trans (hbw.mono (by omega))
  obtain⟨⟨r0,r1⟩,_⟩:=zE ((hbw.block w.heap.size (by omega)).trans HX0.out)
  obtain⟨d0,d1,d2,d3,d4⟩:=qP ((hbw.block (w.heap.size+1) (by omega)).trans HX1.out)
  have HBW:=hid hbw
  have HWR:=hid hwr
  have HO:=hid ho
  have HTE:=hid hte
  have HER:=hid (HE.out.below (hwr.mono HE.out.hB))
  have hss0:w.heap.size<wr.heap.size:=by omega
  have hss1:w.heap.size+1<wr.heap.size:=by omega
  clear hbw hwr ho hte
  by_cases hlt:j<args.length
  · obtain⟨⟨k',op',n',s',as'⟩,he⟩:∃ e,args[j]? =some e:=⟨_,List.getElem?_eq_getElem hlt⟩
    obtain⟨g,o,v',rfl,hg,y0,y1,y2,y3,y4,hsl⟩:=(HX.out.below (HWR.out.mono HE.out.hB) (Nat.le_refl _)).cells he
    obtain⟨A5,c5,rfl,_⟩:=hsl.form
    have HEX:=hid (show vB B wr (.mk k' op' n' s' as') (.agg #[.int .i64 k',.int .i64 op',.int .i64 n',.string s',.slice A5 as'.length c5]) from⟨_,rfl,(HX.out.below (HWR.out.mono HE.out.hB) (Nat.le_refl _)).range he,hsl⟩)
    have hgs:g<wr.heap.size:=by have:=HE.out.hB;omega
    obtain⟨⟨t,f⟩,htf⟩:∃ r,zq p vars (.mk k' op' n' s' as')=r:=⟨_,rfl⟩
    have HTF:=hid htf
    have HOK:=hid (qJ HM.out he)
    have HEE:=hid he
    clear hsl htf he
    by_cases hf0:f=0
    all_goals (try subst hf0)
    all_goals
     go_wp2_with (fail)
     go_region_held3 (fun w'=>w'.cell? ⟨w.heap.size,0,none⟩=some (.slice A0 p.arrays.length c0)∧w'.cell? ⟨w.heap.size,1,none⟩=some (.slice A1 p.funcs.length c1)∧w'.cell? ⟨w.heap.size+1,4,none⟩=some (.slice (some ⟨g,o,none⟩) args.length c)∧w'.cell? ⟨g,o+j * 5,none⟩=some (.int .i64 k')∧w'.cell? ⟨g,o+j * 5+1,none⟩=some (.int .i64 op')∧w'.cell? ⟨g,o+j * 5+2,none⟩=some (.int .i64 n')∧w'.cell? ⟨g,o+j * 5+3,none⟩=some (.string s')∧w'.cell? ⟨g,o+j * 5+4,none⟩=some (.slice A5 as'.length c5))
      (first
        | (go_split_ands;refine⟨?_,?_,?_,?_,?_,?_,?_,?_⟩ <;> (first | (rw[hk5];assumption) | (rw[hx5];assumption) | (rw[hg5];assumption)))
        | go_keep)
      (first
        | (go_at_call 33
           (refine(HIH.out.call (w:=wr.drew) HOK.out HP.out HTF.out (HER.out.below (Below.refl _ _).drew) (HEX.out.below (Below.refl _ _).drew (Nat.le_refl _))).mono ?_)
           rintro e w5 ⟨rfl,hb⟩
           have hb5:Below wr.heap.size wr w5:=(Below.refl _ _).drew.trans hb
           have hz5:wr.heap.size≤w5.heap.size:=hb5.size
           have hk5:∀ k,w5.cell? ⟨w.heap.size,k,none⟩=wr.cell? ⟨w.heap.size,k,none⟩:=fun k=>hb5.cell (p:=⟨w.heap.size,k,none⟩) hss0
           have hx5:∀ k,w5.cell? ⟨w.heap.size+1,k,none⟩=wr.cell? ⟨w.heap.size+1,k,none⟩:=fun k=>hb5.cell (p:=⟨w.heap.size+1,k,none⟩) hss1
           have hg5:∀ k,w5.cell? ⟨g,k,none⟩=wr.cell? ⟨g,k,none⟩:=fun k=>hb5.cell (p:=⟨g,k,none⟩) hgs
           have HB5:=hid hb5
           have HO5:=hid (zh (zZ HO.out fun k hk=>hb5.block k (zH HO.out k hk).2) (.cells #[.int .i64 t] 3))
           have HN5:=hid (kh w5 [.int .i64 t] 3)
           clear hb hb5))
    · go_wp2_with (at_builtin;refine wpList_append_own _ rfl (.tmp 97) (.tmp 99) _ rfl w1.heap.size 3 i0 _ 1 8 Tryd.underlying100 HI0.out.1 HI0.out.2.1 HI0.out.2.2.1 HI0.out.2.2.2 rfl (by omega) (.slice A4 j c4) j _ rfl (by exact HO5.out) ⟨w5.heap.size,0,none⟩ 1 1 [.int .i64 t] rfl rfl (by exact HN5.out) (by simp[Value.oneCell']) (by simp only[maxLen];omega) (by omega) (by simp;omega) ?_
                   intro v6 w6 hown6 hg6 _
                   have HG6:=hid hg6
                   have HO6:=hid hown6
                   clear hown6 hg6)
      go_roundw
      case rel=>
       refine⟨j+1,l++[t],by omega,by go_num,by simp[hll],?_,?_,?_⟩
       · have:=jq HTE.out HEE.out (by rw[HTF.out])
         rwa [HTF.out]at this
       · rw[←xN];exact HO6.out
       · exact((HBW.out.trans (HB5.out.mono (by omega))).alloc (by omega) _).grown HG6.out (by simp;omega) fun k hk=>(zH HO5.out k hk).1
      case measure=>simp[intOf];omega
    · go_wp2_with (fail)
      go_ret2
      have hrr:=HPRE.out
      rw[ki HTE.out HEE.out (by rw[HTF.out];exact hf0),HTF.out]at hrr
      rw[HR.out]at hrr
      subst hrr
      exact⟨rfl,HWR.out.trans (HB5.out.mono (by omega))⟩
  · have hjl:j=args.length:=by omega
    subst hjl
    have HTA:=hid (show zV p vars args=.inr l by have:=HTE.out;rwa [List.take_of_length_le (Nat.le_refl _)]at this)
    clear HTE hj hlt
    go_wp2_with (fail)
    go_ret2
    have hrr:=HPRE.out
    rw[HTA.out,HR.out]at hrr
    dsimp only at hrr
    rw[show qH p vars 3 op s l=(t0,0) from by simp[qH,HVT.out]]at hrr
    subst hrr
    exact⟨rfl,HWR.out⟩
set_option maxHeartbeats 1600000 in
theorem rtype_index (m:Nat) (ih:RTC m) (B:Nat) (p:Pr) (vars:List Pa) (op n:Int) (s:ByteArray) (args:List Ex) (r:Int × Int) (va v0 v1 v:Value) (w:World) (hk:z6 6 op n s args.length=true) (hm:zo args m=true) (hp:Few p) (hE:REnv B p vars v0 v1 v w) (hx:kf B w va args)
 (q:Nat) (hq:qg p.arrays s=some q) (h1:args.length=1) (h8:args.length≤8) (hr:zq p vars (.mk 6 op n s args)=r):
 Calls Tryd.prog 33 #[.agg #[v0,v1],v,.agg #[.int .i64 6,.int .i64 op,.int .i64 n,.string s,va]] w fun e w'=>e=.returned (.tuple #[.int .i64 r.1,.int .i64 r.2])∧Below w.heap.size w w':=by
 have HPRE:=hid (show zq p vars (.mk 6 op n s args)=(match zV p vars args with | .inl e=>(0,e) | .inr l=>qH p vars 6 op s l) by rw[jr,show kJ p vars 6 s=true from by simp[kJ,hq],show jn p 6 s args.length=true from rfl];rfl)
 obtain⟨A0,c0,A1,c1,A2,c2,rfl,rfl,rfl⟩:=hE.form
 obtain⟨A,c,rfl,hn⟩:=hx.form
 obtain⟨i0,hi,hz0,hz1,hz2⟩:=info_parts kM
 have HI0:=hid (And.intro hi (And.intro hz0 (And.intro hz1 hz2)))
 obtain⟨z,hzz⟩:∃ z,jQ (qF p.funcs s)=z:=⟨_,rfl⟩
 have HZ:=hid hzz
 clear hzz
 obtain⟨t0,htt⟩:∃ z,(zi vars s).getD 0=z:=⟨_,rfl⟩
 have HT:=hid htt
 clear htt
 obtain⟨vb,hvb⟩:∃ z,(zi vars s).isSome=z:=⟨_,rfl⟩
 have HVB:=hid hvb
 clear hvb
 have HAZ:=hid (show jQ (qg p.arrays s)=(q:Int) by rw[hq];rfl)
 have H1:=hid h1
 clear hq h1
 have HE:=hid hE
 have HP:=hid hp
 have HR:=hid hr
 have HM:=hid hm
 have HX:=hid hx
 have HIH:=hid ih
 have HW0:=hid (show Below w.heap.size w ((w.alloc (ze A0 p.arrays.length c0 A1 p.funcs.length c1)).alloc (qO 6 op n s A args.length c)) from((Below.refl _ _).alloc (Nat.le_refl _) _).alloc (by simp) _)
 have HXP:=hid (show ((w.alloc (ze A0 p.arrays.length c0 A1 p.funcs.length c1)).alloc (qO 6 op n s A args.length c)).heap[w.heap.size]? =some (ze A0 p.arrays.length c0 A1 p.funcs.length c1) from(Below.heap_alloc _ _ _ (by simp)).trans (heap_alloc_new w _))
 have HXX:=hid (show ((w.alloc (ze A0 p.arrays.length c0 A1 p.funcs.length c1)).alloc (qO 6 op n s A args.length c)).heap[w.heap.size+1]? =some (qO 6 op n s A args.length c) from by simpa using heap_alloc_new (w.alloc (ze A0 p.arrays.length c0 A1 p.funcs.length c1)) (qO 6 op n s A args.length c))
 clear hE hp hk hx hr hi hz0 hz1 hz2 hm ih
 go_enter Tryd.func33,Tryd.ntmps33
 go_wp2_with (first
  | (go_at_call 54
     have hE2:=HE.out.below (HW0.out.mono HE.out.hB)
     (with_reducible refine(qU B p s _ HZ.out _ _ _ hE2.hB hE2.ha hE2.hf).mono ?_)
     rintro e w1 ⟨rfl,hb⟩
     have hx1:=(hb.block (w.heap.size+1) (by simp)).trans HXX.out
     have hx0:=(hb.block w.heap.size (by simp;omega)).trans HXP.out
     obtain⟨e0,e1,e2,e3,e4⟩:=qP hx1
     obtain⟨⟨q0,q1⟩,qz⟩:=zE hx0
     have hs1:w.heap.size+1<w1.heap.size:=zB hx1
     have hs0:w.heap.size<w1.heap.size:=by omega
     have HX0:=hid hx0
     have HX1:=hid hx1
     have hbw1:Below w.heap.size w w1:=HW0.out.trans (hb.mono (by simp;omega))
     have HB1:=hid hbw1
     have HE1:=hid (HE.out.below (hbw1.mono HE.out.hB))
     clear hb hE2 hx1 hx0 hbw1)
  | (go_at_call 28
     (with_reducible refine(qd B vars s _ _ HT.out HVB.out _ _ HE1.out.hB HE1.out.hv).mono ?_)
     rintro e w9 ⟨rfl,rfl⟩)
  | (go_at_call 53
     (with_reducible refine(xo B p s _ HAZ.out _ _ _ HE1.out.hB HE1.out.ha HE1.out.hf).mono ?_)
     rintro e w3 ⟨rfl,hb⟩
     have hx1:=(hb.block (w.heap.size+1) hs1).trans HX1.out
     have hx0:=(hb.block w.heap.size hs0).trans HX0.out
     obtain⟨e0,e1,e2,e3,e4⟩:=qP hx1
     obtain⟨⟨q0,q1⟩,qz⟩:=zE hx0
     have hs1:w.heap.size+1<w3.heap.size:=zB hx1
     have hs0:w.heap.size<w3.heap.size:=by omega
     have HX0:=hid hx0
     have HX1:=hid hx1
     have hbw1:Below w.heap.size w w3:=HB1.out.trans (hb.mono (by omega))
     have HB1:=hid hbw1
     have HE1:=hid (HE.out.below (hbw1.mono HE.out.hB))
     clear hb hx1 hx0 hbw1))
 go_quiet (fail)
 go_wp2_with (fail)
 go_loopw [11,12] (fun lv iv wr=>∃ (j:Nat) (l:List Int),j≤args.length∧iv=.int .i64 j∧l.length=j∧zV p vars (args.take j)=.inr l∧wr.ownsRow w3.heap.size 3 1 lv j (l.map (Value.int .i64))∧Below w3.heap.size w3 wr) (fun _ iv _=>args.length-(intOf iv).toNat)
 case atStart=>exact⟨0,[],Nat.zero_le _,rfl,rfl,by rw[List.take_zero,zV],World.ownsRow_nil _ _ _ _,bdN (Below.refl _ _) _⟩
 case round=>
  obtain⟨j,l,hj,rfl,hll,hte,ho,hbw⟩:=hrel
  obtain⟨A4,c4,rfl⟩:=zp ho
  have hsz:=hbw.size
  have hwr:Below w.heap.size w wr:=HB1.out.trans (hbw.mono (by omega))
  obtain⟨⟨r0,r1⟩,_⟩:=zE ((hbw.block w.heap.size (by omega)).trans HX0.out)
  obtain⟨d0,d1,d2,d3,d4⟩:=qP ((hbw.block (w.heap.size+1) (by omega)).trans HX1.out)
  have HBW:=hid hbw
  have HWR:=hid hwr
  have HO:=hid ho
  have HTE:=hid hte
  have HER:=hid (HE.out.below (hwr.mono HE.out.hB))
  have hss0:w.heap.size<wr.heap.size:=by omega
  have hss1:w.heap.size+1<wr.heap.size:=by omega
  clear hbw hwr ho hte
  by_cases hlt:j<args.length
  · obtain⟨⟨k',op',n',s',as'⟩,he⟩:∃ e,args[j]? =some e:=⟨_,List.getElem?_eq_getElem hlt⟩
    obtain⟨g,o,v',rfl,hg,y0,y1,y2,y3,y4,hsl⟩:=(HX.out.below (HWR.out.mono HE.out.hB) (Nat.le_refl _)).cells he
    obtain⟨A5,c5,rfl,_⟩:=hsl.form
    have HEX:=hid (show vB B wr (.mk k' op' n' s' as') (.agg #[.int .i64 k',.int .i64 op',.int .i64 n',.string s',.slice A5 as'.length c5]) from⟨_,rfl,(HX.out.below (HWR.out.mono HE.out.hB) (Nat.le_refl _)).range he,hsl⟩)
    have hgs:g<wr.heap.size:=by have:=HE.out.hB;omega
    obtain⟨⟨t,f⟩,htf⟩:∃ r,zq p vars (.mk k' op' n' s' as')=r:=⟨_,rfl⟩
    have HTF:=hid htf
    have HOK:=hid (qJ HM.out he)
    have HEE:=hid he
    clear hsl htf he
    by_cases hf0:f=0
    all_goals (try subst hf0)
    all_goals
     go_wp2_with (fail)
     go_region_held3 (fun w'=>w'.cell? ⟨w.heap.size,0,none⟩=some (.slice A0 p.arrays.length c0)∧w'.cell? ⟨w.heap.size,1,none⟩=some (.slice A1 p.funcs.length c1)∧w'.cell? ⟨w.heap.size+1,4,none⟩=some (.slice (some ⟨g,o,none⟩) args.length c)∧w'.cell? ⟨g,o+j * 5,none⟩=some (.int .i64 k')∧w'.cell? ⟨g,o+j * 5+1,none⟩=some (.int .i64 op')∧w'.cell? ⟨g,o+j * 5+2,none⟩=some (.int .i64 n')∧w'.cell? ⟨g,o+j * 5+3,none⟩=some (.string s')∧w'.cell? ⟨g,o+j * 5+4,none⟩=some (.slice A5 as'.length c5))
      (first
        | (go_split_ands;refine⟨?_,?_,?_,?_,?_,?_,?_,?_⟩ <;> (first | (rw[hk5];assumption) | (rw[hx5];assumption) | (rw[hg5];assumption)))
        | go_keep)
      (first
        | (go_at_call 33
           (refine(HIH.out.call (w:=wr.drew) HOK.out HP.out HTF.out (HER.out.below (Below.refl _ _).drew) (HEX.out.below (Below.refl _ _).drew (Nat.le_refl _))).mono ?_)
           rintro e w5 ⟨rfl,hb⟩
           have hb5:Below wr.heap.size wr w5:=(Below.refl _ _).drew.trans hb
           have hz5:wr.heap.size≤w5.heap.size:=hb5.size
           have hk5:∀ k,w5.cell? ⟨w.heap.size,k,none⟩=wr.cell? ⟨w.heap.size,k,none⟩:=fun k=>hb5.cell (p:=⟨w.heap.size,k,none⟩) hss0
           have hx5:∀ k,w5.cell? ⟨w.heap.size+1,k,none⟩=wr.cell? ⟨w.heap.size+1,k,none⟩:=fun k=>hb5.cell (p:=⟨w.heap.size+1,k,none⟩) hss1
           have hg5:∀ k,w5.cell? ⟨g,k,none⟩=wr.cell? ⟨g,k,none⟩:=fun k=>hb5.cell (p:=⟨g,k,none⟩) hgs
           have HB5:=hid hb5
           have HO5:=hid (zh (zZ HO.out fun k hk=>hb5.block k (zH HO.out k hk).2) (.cells #[.int .i64 t] 3))
           have HN5:=hid (kh w5 [.int .i64 t] 3)
           clear hb hb5))
    · go_wp2_with (at_builtin;refine wpList_append_own _ rfl (.tmp 97) (.tmp 99) _ rfl w3.heap.size 3 i0 _ 1 8 Tryd.underlying100 HI0.out.1 HI0.out.2.1 HI0.out.2.2.1 HI0.out.2.2.2 rfl (by omega) (.slice A4 j c4) j _ rfl (by exact HO5.out) ⟨w5.heap.size,0,none⟩ 1 1 [.int .i64 t] rfl rfl (by exact HN5.out) (by simp[Value.oneCell']) (by simp only[maxLen];omega) (by omega) (by simp;omega) ?_
                   intro v6 w6 hown6 hg6 _
                   have HG6:=hid hg6
                   have HO6:=hid hown6
                   clear hown6 hg6)
      go_roundw
      case rel=>
       refine⟨j+1,l++[t],by omega,by go_num,by simp[hll],?_,?_,?_⟩
       · have:=jq HTE.out HEE.out (by rw[HTF.out])
         rwa [HTF.out]at this
       · rw[←xN];exact HO6.out
       · exact((HBW.out.trans (HB5.out.mono (by omega))).alloc (by omega) _).grown HG6.out (by simp;omega) fun k hk=>(zH HO5.out k hk).1
      case measure=>simp[intOf];omega
    · go_wp2_with (fail)
      go_ret2
      have hrr:=HPRE.out
      rw[ki HTE.out HEE.out (by rw[HTF.out];exact hf0),HTF.out]at hrr
      rw[HR.out]at hrr
      subst hrr
      exact⟨rfl,HWR.out.trans (HB5.out.mono (by omega))⟩
  · have hjl:j=args.length:=by omega
    subst hjl
    have HTA:=hid (show zV p vars args=.inr l by have:=HTE.out;rwa [List.take_of_length_le (Nat.le_refl _)]at this)
    clear HTE hj hlt
    have h1:=H1.out
    obtain⟨gl,c7,hA4,hgl⟩:∃ g c,Value.slice A4 args.length c4=.slice (some ⟨g,0,none⟩) args.length c∧g<wr.heap.size:=by
     rcases HO.out.2 with⟨_,h0⟩ | ⟨g,cap,cur,hv,_,h2,_⟩
     · omega
     · exact⟨g,cap,hv,zB h2⟩
    injection hA4 with hA4 _ hc4
    subst hA4 hc4
    obtain⟨x,hx⟩:∃ e,l[0]? =some e:=⟨_,List.getElem?_eq_getElem (by omega)⟩
    have hx0:wr.cell? ⟨gl,0,none⟩=some (.int .i64 x):=(HO.out.cellAt 0 (by omega)).trans (by rw[List.getElem?_map,hx];rfl)
    have hlx:l.headD 0=x:=by
     cases l with
     | nil=>simp at hx
     | cons a r=>simpa using hx
    have HLX:=hid hlx
    have hpos:0<args.length:=by omega
    clear hx hlx h1
    by_cases h2:x=1
    · subst h2
      go_wp2_with (fail)
      go_ret2
      have hrr:=HPRE.out
      rw[HTA.out,HR.out]at hrr
      dsimp only at hrr
      rw[show qH p vars 6 op s l=(1,0) from by rw[nodeY_idx,HLX.out];rfl]at hrr
      subst hrr
      exact⟨rfl,HWR.out⟩
    · go_wp2_with (fail)
      go_ret2
      have hrr:=HPRE.out
      rw[HTA.out,HR.out]at hrr
      dsimp only at hrr
      rw[show qH p vars 6 op s l=(0,51) from by rw[nodeY_idx,HLX.out,if_neg h2]]at hrr
      subst hrr
      exact⟨rfl,HWR.out⟩
set_option maxHeartbeats 1600000 in
theorem rtype_var_no (m:Nat) (ih:RTC m) (B:Nat) (p:Pr) (vars:List Pa) (op n:Int) (s:ByteArray) (args:List Ex) (r:Int × Int) (va v0 v1 v:Value) (w:World) (hk:z6 3 op n s args.length=true) (hm:zo args m=true) (hp:Few p) (hE:REnv B p vars v0 v1 v w) (hx:kf B w va args)
 (hvt:zi vars s=none) (h8:args.length≤8) (hr:zq p vars (.mk 3 op n s args)=r):
 Calls Tryd.prog 33 #[.agg #[v0,v1],v,.agg #[.int .i64 3,.int .i64 op,.int .i64 n,.string s,va]] w fun e w'=>e=.returned (.tuple #[.int .i64 r.1,.int .i64 r.2])∧Below w.heap.size w w':=by
 have HPRE:=hid (show zq p vars (.mk 3 op n s args)=(0,50) by rw[jr,show kJ p vars 3 s=false from by simp[kJ,hvt]];rfl)
 obtain⟨A0,c0,A1,c1,A2,c2,rfl,rfl,rfl⟩:=hE.form
 obtain⟨A,c,rfl,hn⟩:=hx.form
 obtain⟨i0,hi,hz0,hz1,hz2⟩:=info_parts kM
 have HI0:=hid (And.intro hi (And.intro hz0 (And.intro hz1 hz2)))
 obtain⟨z,hzz⟩:∃ z,jQ (qF p.funcs s)=z:=⟨_,rfl⟩
 have HZ:=hid hzz
 clear hzz
 have HT:=hid (show (zi vars s).getD 0=0 by rw[hvt];rfl)
 have HVB:=hid (show (zi vars s).isSome=false by rw[hvt];rfl)
 clear hvt
 have HE:=hid hE
 have HP:=hid hp
 have HR:=hid hr
 have HM:=hid hm
 have HX:=hid hx
 have HIH:=hid ih
 have HW0:=hid (show Below w.heap.size w ((w.alloc (ze A0 p.arrays.length c0 A1 p.funcs.length c1)).alloc (qO 3 op n s A args.length c)) from((Below.refl _ _).alloc (Nat.le_refl _) _).alloc (by simp) _)
 have HXP:=hid (show ((w.alloc (ze A0 p.arrays.length c0 A1 p.funcs.length c1)).alloc (qO 3 op n s A args.length c)).heap[w.heap.size]? =some (ze A0 p.arrays.length c0 A1 p.funcs.length c1) from(Below.heap_alloc _ _ _ (by simp)).trans (heap_alloc_new w _))
 have HXX:=hid (show ((w.alloc (ze A0 p.arrays.length c0 A1 p.funcs.length c1)).alloc (qO 3 op n s A args.length c)).heap[w.heap.size+1]? =some (qO 3 op n s A args.length c) from by simpa using heap_alloc_new (w.alloc (ze A0 p.arrays.length c0 A1 p.funcs.length c1)) (qO 3 op n s A args.length c))
 clear hE hp hk hx hr hi hz0 hz1 hz2 hm ih
 go_enter Tryd.func33,Tryd.ntmps33
 go_wp2_with (first
  | (go_at_call 54
     have hE2:=HE.out.below (HW0.out.mono HE.out.hB)
     (with_reducible refine(qU B p s _ HZ.out _ _ _ hE2.hB hE2.ha hE2.hf).mono ?_)
     rintro e w1 ⟨rfl,hb⟩
     have hx1:=(hb.block (w.heap.size+1) (by simp)).trans HXX.out
     have hx0:=(hb.block w.heap.size (by simp;omega)).trans HXP.out
     obtain⟨e0,e1,e2,e3,e4⟩:=qP hx1
     obtain⟨⟨q0,q1⟩,qz⟩:=zE hx0
     have hs1:w.heap.size+1<w1.heap.size:=zB hx1
     have hs0:w.heap.size<w1.heap.size:=by omega
     have HX0:=hid hx0
     have HX1:=hid hx1
     have hbw1:Below w.heap.size w w1:=HW0.out.trans (hb.mono (by simp;omega))
     have HB1:=hid hbw1
     have HE1:=hid (HE.out.below (hbw1.mono HE.out.hB))
     clear hb hE2 hx1 hx0 hbw1)
  | (go_at_call 28
     (with_reducible refine(qd B vars s _ _ HT.out HVB.out _ _ HE1.out.hB HE1.out.hv).mono ?_)
     rintro e w9 ⟨rfl,rfl⟩))
 go_ret2
 have hrr:=HPRE.out
 rw[HR.out]at hrr
 subst hrr
 exact⟨rfl,HB1.out⟩
set_option maxHeartbeats 1600000 in
theorem rtype_index_no (m:Nat) (ih:RTC m) (B:Nat) (p:Pr) (vars:List Pa) (op n:Int) (s:ByteArray) (args:List Ex) (r:Int × Int) (va v0 v1 v:Value) (w:World) (hk:z6 6 op n s args.length=true) (hm:zo args m=true) (hp:Few p) (hE:REnv B p vars v0 v1 v w) (hx:kf B w va args)
 (hq:qg p.arrays s=none) (h8:args.length≤8) (hr:zq p vars (.mk 6 op n s args)=r):
 Calls Tryd.prog 33 #[.agg #[v0,v1],v,.agg #[.int .i64 6,.int .i64 op,.int .i64 n,.string s,va]] w fun e w'=>e=.returned (.tuple #[.int .i64 r.1,.int .i64 r.2])∧Below w.heap.size w w':=by
 have HPRE:=hid (show zq p vars (.mk 6 op n s args)=(0,50) by rw[jr,show kJ p vars 6 s=false from by simp[kJ,hq]];rfl)
 obtain⟨A0,c0,A1,c1,A2,c2,rfl,rfl,rfl⟩:=hE.form
 obtain⟨A,c,rfl,hn⟩:=hx.form
 obtain⟨i0,hi,hz0,hz1,hz2⟩:=info_parts kM
 have HI0:=hid (And.intro hi (And.intro hz0 (And.intro hz1 hz2)))
 obtain⟨z,hzz⟩:∃ z,jQ (qF p.funcs s)=z:=⟨_,rfl⟩
 have HZ:=hid hzz
 clear hzz
 obtain⟨t0,htt⟩:∃ z,(zi vars s).getD 0=z:=⟨_,rfl⟩
 have HT:=hid htt
 clear htt
 obtain⟨vb,hvb⟩:∃ z,(zi vars s).isSome=z:=⟨_,rfl⟩
 have HVB:=hid hvb
 clear hvb
 have HAZ:=hid (show jQ (qg p.arrays s)= -1 by rw[hq];rfl)
 clear hq
 have HE:=hid hE
 have HP:=hid hp
 have HR:=hid hr
 have HM:=hid hm
 have HX:=hid hx
 have HIH:=hid ih
 have HW0:=hid (show Below w.heap.size w ((w.alloc (ze A0 p.arrays.length c0 A1 p.funcs.length c1)).alloc (qO 6 op n s A args.length c)) from((Below.refl _ _).alloc (Nat.le_refl _) _).alloc (by simp) _)
 have HXP:=hid (show ((w.alloc (ze A0 p.arrays.length c0 A1 p.funcs.length c1)).alloc (qO 6 op n s A args.length c)).heap[w.heap.size]? =some (ze A0 p.arrays.length c0 A1 p.funcs.length c1) from(Below.heap_alloc _ _ _ (by simp)).trans (heap_alloc_new w _))
 have HXX:=hid (show ((w.alloc (ze A0 p.arrays.length c0 A1 p.funcs.length c1)).alloc (qO 6 op n s A args.length c)).heap[w.heap.size+1]? =some (qO 6 op n s A args.length c) from by simpa using heap_alloc_new (w.alloc (ze A0 p.arrays.length c0 A1 p.funcs.length c1)) (qO 6 op n s A args.length c))
 clear hE hp hk hx hr hi hz0 hz1 hz2 hm ih
 go_enter Tryd.func33,Tryd.ntmps33
 go_wp2_with (first
  | (go_at_call 54
     have hE2:=HE.out.below (HW0.out.mono HE.out.hB)
     (with_reducible refine(qU B p s _ HZ.out _ _ _ hE2.hB hE2.ha hE2.hf).mono ?_)
     rintro e w1 ⟨rfl,hb⟩
     have hx1:=(hb.block (w.heap.size+1) (by simp)).trans HXX.out
     have hx0:=(hb.block w.heap.size (by simp;omega)).trans HXP.out
     obtain⟨e0,e1,e2,e3,e4⟩:=qP hx1
     obtain⟨⟨q0,q1⟩,qz⟩:=zE hx0
     have hs1:w.heap.size+1<w1.heap.size:=zB hx1
     have hs0:w.heap.size<w1.heap.size:=by omega
     have HX0:=hid hx0
     have HX1:=hid hx1
     have hbw1:Below w.heap.size w w1:=HW0.out.trans (hb.mono (by simp;omega))
     have HB1:=hid hbw1
     have HE1:=hid (HE.out.below (hbw1.mono HE.out.hB))
     clear hb hE2 hx1 hx0 hbw1)
  | (go_at_call 28
     (with_reducible refine(qd B vars s _ _ HT.out HVB.out _ _ HE1.out.hB HE1.out.hv).mono ?_)
     rintro e w9 ⟨rfl,rfl⟩)
  | (go_at_call 53
     (with_reducible refine(xo B p s _ HAZ.out _ _ _ HE1.out.hB HE1.out.ha HE1.out.hf).mono ?_)
     rintro e w3 ⟨rfl,hb⟩
     have hx1:=(hb.block (w.heap.size+1) hs1).trans HX1.out
     have hx0:=(hb.block w.heap.size hs0).trans HX0.out
     obtain⟨e0,e1,e2,e3,e4⟩:=qP hx1
     obtain⟨⟨q0,q1⟩,qz⟩:=zE hx0
     have hs1:w.heap.size+1<w3.heap.size:=zB hx1
     have hs0:w.heap.size<w3.heap.size:=by omega
     have HX0:=hid hx0
     have HX1:=hid hx1
     have hbw1:Below w.heap.size w w3:=HB1.out.trans (hb.mono (by omega))
     have HB1:=hid hbw1
     have HE1:=hid (HE.out.below (hbw1.mono HE.out.hB))
     clear hb hx1 hx0 hbw1))
 go_ret2
 have hrr:=HPRE.out
 rw[HR.out]at hrr
 subst hrr
 exact⟨rfl,HB1.out⟩
set_option maxHeartbeats 1600000 in
theorem rtype_call_no (m:Nat) (ih:RTC m) (B:Nat) (p:Pr) (vars:List Pa) (op n:Int) (s:ByteArray) (args:List Ex) (r:Int × Int) (va v0 v1 v:Value) (w:World) (hk:z6 7 op n s args.length=true) (hm:zo args m=true) (hp:Few p) (hE:REnv B p vars v0 v1 v w) (hx:kf B w va args)
 (hq:qF p.funcs s=none) (h8:args.length≤8) (hr:zq p vars (.mk 7 op n s args)=r):
 Calls Tryd.prog 33 #[.agg #[v0,v1],v,.agg #[.int .i64 7,.int .i64 op,.int .i64 n,.string s,va]] w fun e w'=>e=.returned (.tuple #[.int .i64 r.1,.int .i64 r.2])∧Below w.heap.size w w':=by
 have HPRE:=hid (show zq p vars (.mk 7 op n s args)=(0,50) by rw[jr,show kJ p vars 7 s=false from by simp[kJ,hq]];rfl)
 obtain⟨A0,c0,A1,c1,A2,c2,rfl,rfl,rfl⟩:=hE.form
 obtain⟨A,c,rfl,hn⟩:=hx.form
 obtain⟨i0,hi,hz0,hz1,hz2⟩:=info_parts kM
 have HI0:=hid (And.intro hi (And.intro hz0 (And.intro hz1 hz2)))
 have HZ:=hid (show jQ (qF p.funcs s)= -1 by rw[hq];rfl)
 clear hq
 obtain⟨t0,htt⟩:∃ z,(zi vars s).getD 0=z:=⟨_,rfl⟩
 have HT:=hid htt
 clear htt
 obtain⟨vb,hvb⟩:∃ z,(zi vars s).isSome=z:=⟨_,rfl⟩
 have HVB:=hid hvb
 clear hvb
 have HE:=hid hE
 have HP:=hid hp
 have HR:=hid hr
 have HM:=hid hm
 have HX:=hid hx
 have HIH:=hid ih
 have HW0:=hid (show Below w.heap.size w ((w.alloc (ze A0 p.arrays.length c0 A1 p.funcs.length c1)).alloc (qO 7 op n s A args.length c)) from((Below.refl _ _).alloc (Nat.le_refl _) _).alloc (by simp) _)
 have HXP:=hid (show ((w.alloc (ze A0 p.arrays.length c0 A1 p.funcs.length c1)).alloc (qO 7 op n s A args.length c)).heap[w.heap.size]? =some (ze A0 p.arrays.length c0 A1 p.funcs.length c1) from(Below.heap_alloc _ _ _ (by simp)).trans (heap_alloc_new w _))
 have HXX:=hid (show ((w.alloc (ze A0 p.arrays.length c0 A1 p.funcs.length c1)).alloc (qO 7 op n s A args.length c)).heap[w.heap.size+1]? =some (qO 7 op n s A args.length c) from by simpa using heap_alloc_new (w.alloc (ze A0 p.arrays.length c0 A1 p.funcs.length c1)) (qO 7 op n s A args.length c))
 clear hE hp hk hx hr hi hz0 hz1 hz2 hm ih
 go_enter Tryd.func33,Tryd.ntmps33
 go_wp2_with (first
  | (go_at_call 54
     have hE2:=HE.out.below (HW0.out.mono HE.out.hB)
     (with_reducible refine(qU B p s _ HZ.out _ _ _ hE2.hB hE2.ha hE2.hf).mono ?_)
     rintro e w1 ⟨rfl,hb⟩
     have hx1:=(hb.block (w.heap.size+1) (by simp)).trans HXX.out
     have hx0:=(hb.block w.heap.size (by simp;omega)).trans HXP.out
     obtain⟨e0,e1,e2,e3,e4⟩:=qP hx1
     obtain⟨⟨q0,q1⟩,qz⟩:=zE hx0
     have hs1:w.heap.size+1<w1.heap.size:=zB hx1
     have hs0:w.heap.size<w1.heap.size:=by omega
     have HX0:=hid hx0
     have HX1:=hid hx1
     have hbw1:Below w.heap.size w w1:=HW0.out.trans (hb.mono (by simp;omega))
     have HB1:=hid hbw1
     have HE1:=hid (HE.out.below (hbw1.mono HE.out.hB))
     clear hb hE2 hx1 hx0 hbw1)
  | (go_at_call 28
     (with_reducible refine(qd B vars s _ _ HT.out HVB.out _ _ HE1.out.hB HE1.out.hv).mono ?_)
     rintro e w9 ⟨rfl,rfl⟩))
 go_ret2
 have hrr:=HPRE.out
 rw[HR.out]at hrr
 subst hrr
 exact⟨rfl,HB1.out⟩
set_option maxHeartbeats 1600000 in
theorem rtype_call_count (m:Nat) (ih:RTC m) (B:Nat) (p:Pr) (vars:List Pa) (op n:Int) (s:ByteArray) (args:List Ex) (r:Int × Int) (va v0 v1 v:Value) (w:World) (hk:z6 7 op n s args.length=true) (hm:zo args m=true) (hp:Few p) (hE:REnv B p vars v0 v1 v w) (hx:kf B w va args)
 (q:Nat) (f:Fu) (hq:qF p.funcs s=some q) (hf:p.funcs[q]? =some f) (hc:args.length≠f.params.length) (h8:args.length≤8) (hr:zq p vars (.mk 7 op n s args)=r):
 Calls Tryd.prog 33 #[.agg #[v0,v1],v,.agg #[.int .i64 7,.int .i64 op,.int .i64 n,.string s,va]] w fun e w'=>e=.returned (.tuple #[.int .i64 r.1,.int .i64 r.2])∧Below w.heap.size w w':=by
 have HPRE:=hid (show zq p vars (.mk 7 op n s args)=(0,51) by rw[jr,show kJ p vars 7 s=true by simp[kJ,hq],show jn p 7 s args.length=false by simp[jn,kn,hq,hf,hc]];rfl)
 have hcz:((args.length:Int) != (f.params.length:Int))=true:=by simp;omega
 clear hc
 obtain⟨A0,c0,A1,c1,A2,c2,rfl,rfl,rfl⟩:=hE.form
 obtain⟨A,c,rfl,hn⟩:=hx.form
 obtain⟨i0,hi,hz0,hz1,hz2⟩:=info_parts kM
 have HI0:=hid (And.intro hi (And.intro hz0 (And.intro hz1 hz2)))
 have HZ:=hid (show jQ (qF p.funcs s)=(q:Int) by rw[hq];rfl)
 have HKF:=hid hf
 have hql:q<p.funcs.length:=(List.getElem?_eq_some_iff.1 hf).1
 clear hq hf
 obtain⟨t0,htt⟩:∃ z,(zi vars s).getD 0=z:=⟨_,rfl⟩
 have HT:=hid htt
 clear htt
 obtain⟨vb,hvb⟩:∃ z,(zi vars s).isSome=z:=⟨_,rfl⟩
 have HVB:=hid hvb
 clear hvb
 have HE:=hid hE
 have HP:=hid hp
 have HR:=hid hr
 have HM:=hid hm
 have HX:=hid hx
 have HIH:=hid ih
 have HW0:=hid (show Below w.heap.size w ((w.alloc (ze A0 p.arrays.length c0 A1 p.funcs.length c1)).alloc (qO 7 op n s A args.length c)) from((Below.refl _ _).alloc (Nat.le_refl _) _).alloc (by simp) _)
 have HXP:=hid (show ((w.alloc (ze A0 p.arrays.length c0 A1 p.funcs.length c1)).alloc (qO 7 op n s A args.length c)).heap[w.heap.size]? =some (ze A0 p.arrays.length c0 A1 p.funcs.length c1) from(Below.heap_alloc _ _ _ (by simp)).trans (heap_alloc_new w _))
 have HXX:=hid (show ((w.alloc (ze A0 p.arrays.length c0 A1 p.funcs.length c1)).alloc (qO 7 op n s A args.length c)).heap[w.heap.size+1]? =some (qO 7 op n s A args.length c) from by simpa using heap_alloc_new (w.alloc (ze A0 p.arrays.length c0 A1 p.funcs.length c1)) (qO 7 op n s A args.length c))
 clear hE hp hk hx hr hi hz0 hz1 hz2 hm ih
 go_enter Tryd.func33,Tryd.ntmps33
 go_wp2_with (first
  | (go_at_call 54
     have hE2:=HE.out.below (HW0.out.mono HE.out.hB)
     (with_reducible refine(qU B p s _ HZ.out _ _ _ hE2.hB hE2.ha hE2.hf).mono ?_)
     rintro e w1 ⟨rfl,hb⟩
     have hx1:=(hb.block (w.heap.size+1) (by simp)).trans HXX.out
     have hx0:=(hb.block w.heap.size (by simp;omega)).trans HXP.out
     obtain⟨e0,e1,e2,e3,e4⟩:=qP hx1
     obtain⟨⟨q0,q1⟩,qz⟩:=zE hx0
     have hs1:w.heap.size+1<w1.heap.size:=zB hx1
     have hs0:w.heap.size<w1.heap.size:=by omega
     have HX0:=hid hx0
     have HX1:=hid hx1
     have hbw1:Below w.heap.size w w1:=HW0.out.trans (hb.mono (by simp;omega))
     have HB1:=hid hbw1
     have HE1:=hid (HE.out.below (hbw1.mono HE.out.hB))
     clear hb hE2 hx1 hx0 hbw1)
  | (go_at_call 28
     (with_reducible refine(qd B vars s _ _ HT.out HVB.out _ _ HE1.out.hB HE1.out.hv).mono ?_)
     rintro e w9 ⟨rfl,rfl⟩))
 obtain⟨gF,oF,v2,v3,rfl,hgF,z0,z1,z2,z3,hpz,hbz⟩:=HE1.out.hf.cells HKF.out
 obtain⟨A6,c6,rfl,hn6⟩:=hpz.form
 have HPZ:=hid hpz
 have hgF1:gF<w1.heap.size:=by have:=HE1.out.hB;omega
 clear hpz hbz
 go_quiet (fail)
 go_wp2_with (fail)
 go_ret2
 have hrr:=HPRE.out
 rw[HR.out]at hrr
 subst hrr
 exact⟨rfl,bdN HB1.out _⟩
set_option maxHeartbeats 1600000 in
theorem rtype_call (m:Nat) (ih:RTC m) (B:Nat) (p:Pr) (vars:List Pa) (op n:Int) (s:ByteArray) (args:List Ex) (r:Int × Int) (va v0 v1 v:Value) (w:World) (hk:z6 7 op n s args.length=true) (hm:zo args m=true) (hp:Few p) (hE:REnv B p vars v0 v1 v w) (hx:kf B w va args)
 (q:Nat) (f:Fu) (hq:qF p.funcs s=some q) (hf:p.funcs[q]? =some f) (hc:args.length=f.params.length) (h8:args.length≤8) (hr:zq p vars (.mk 7 op n s args)=r):
 Calls Tryd.prog 33 #[.agg #[v0,v1],v,.agg #[.int .i64 7,.int .i64 op,.int .i64 n,.string s,va]] w fun e w'=>e=.returned (.tuple #[.int .i64 r.1,.int .i64 r.2])∧Below w.heap.size w w':=by
 have HPRE:=hid (show zq p vars (.mk 7 op n s args)=(match zV p vars args with | .inl e=>(0,e) | .inr l=>qH p vars 7 op s l) by rw[jr,show kJ p vars 7 s=true from by simp[kJ,hq],show jn p 7 s args.length=true from by simp[jn,kn,hq,hf,hc]];rfl)
 have hcz:((args.length:Int) != (f.params.length:Int))=false:=by simp;omega
 have HC:=hid hc
 clear hc
 have HNY:=hid (fun l=>show qH p vars 7 op s l=if l=f.params.map (·.type) then (f.type,0) else (0,51) by simp[qH,kn,hq,hf])
 obtain⟨A0,c0,A1,c1,A2,c2,rfl,rfl,rfl⟩:=hE.form
 obtain⟨A,c,rfl,hn⟩:=hx.form
 obtain⟨i0,hi,hz0,hz1,hz2⟩:=info_parts kM
 have HI0:=hid (And.intro hi (And.intro hz0 (And.intro hz1 hz2)))
 have HZ:=hid (show jQ (qF p.funcs s)=(q:Int) by rw[hq];rfl)
 have HKF:=hid hf
 have hql:q<p.funcs.length:=(List.getElem?_eq_some_iff.1 hf).1
 clear hq hf
 obtain⟨t0,htt⟩:∃ z,(zi vars s).getD 0=z:=⟨_,rfl⟩
 have HT:=hid htt
 clear htt
 obtain⟨vb,hvb⟩:∃ z,(zi vars s).isSome=z:=⟨_,rfl⟩
 have HVB:=hid hvb
 clear hvb
 have HE:=hid hE
 have HP:=hid hp
 have HR:=hid hr
 have HM:=hid hm
 have HX:=hid hx
 have HIH:=hid ih
 have HW0:=hid (show Below w.heap.size w ((w.alloc (ze A0 p.arrays.length c0 A1 p.funcs.length c1)).alloc (qO 7 op n s A args.length c)) from((Below.refl _ _).alloc (Nat.le_refl _) _).alloc (by simp) _)
 have HXP:=hid (show ((w.alloc (ze A0 p.arrays.length c0 A1 p.funcs.length c1)).alloc (qO 7 op n s A args.length c)).heap[w.heap.size]? =some (ze A0 p.arrays.length c0 A1 p.funcs.length c1) from(Below.heap_alloc _ _ _ (by simp)).trans (heap_alloc_new w _))
 have HXX:=hid (show ((w.alloc (ze A0 p.arrays.length c0 A1 p.funcs.length c1)).alloc (qO 7 op n s A args.length c)).heap[w.heap.size+1]? =some (qO 7 op n s A args.length c) from by simpa using heap_alloc_new (w.alloc (ze A0 p.arrays.length c0 A1 p.funcs.length c1)) (qO 7 op n s A args.length c))
 clear hE hp hk hx hr hi hz0 hz1 hz2 hm ih
 go_enter Tryd.func33,Tryd.ntmps33
 go_wp2_with (first
  | (go_at_call 54
     have hE2:=HE.out.below (HW0.out.mono HE.out.hB)
     (with_reducible refine(qU B p s _ HZ.out _ _ _ hE2.hB hE2.ha hE2.hf).mono ?_)
     rintro e w1 ⟨rfl,hb⟩
     have hx1:=(hb.block (w.heap.size+1) (by simp)).trans HXX.out
     have hx0:=(hb.block w.heap.size (by simp;omega)).trans HXP.out
     obtain⟨e0,e1,e2,e3,e4⟩:=qP hx1
     obtain⟨⟨q0,q1⟩,qz⟩:=zE hx0
     have hs1:w.heap.size+1<w1.heap.size:=zB hx1
     have hs0:w.heap.size<w1.heap.size:=by omega
     have HX0:=hid hx0
     have HX1:=hid hx1
     have hbw1:Below w.heap.size w w1:=HW0.out.trans (hb.mono (by simp;omega))
     have HB1:=hid hbw1
     have HE1:=hid (HE.out.below (hbw1.mono HE.out.hB))
     clear hb hE2 hx1 hx0 hbw1)
  | (go_at_call 28
     (with_reducible refine(qd B vars s _ _ HT.out HVB.out _ _ HE1.out.hB HE1.out.hv).mono ?_)
     rintro e w9 ⟨rfl,rfl⟩))
 obtain⟨gF,oF,v2,v3,rfl,hgF,z0,z1,z2,z3,hpz,hbz⟩:=HE1.out.hf.cells HKF.out
 obtain⟨A6,c6,rfl,hn6⟩:=hpz.form
 have HPZ:=hid hpz
 have hgF1:gF<w1.heap.size:=by have:=HE1.out.hB;omega
 clear hpz hbz
 go_quiet (fail)
 go_wp2_with (fail)
 go_loopw [11,12] (fun lv iv wr=>∃ (j:Nat) (l:List Int),j≤args.length∧iv=.int .i64 j∧l.length=j∧zV p vars (args.take j)=.inr l∧wr.ownsRow w1.heap.size 3 1 lv j (l.map (Value.int .i64))∧Below w1.heap.size w1 wr) (fun _ iv _=>args.length-(intOf iv).toNat)
 case atStart=>exact⟨0,[],Nat.zero_le _,rfl,rfl,by rw[List.take_zero,zV],World.ownsRow_nil _ _ _ _,bdN (Below.refl _ _) _⟩
 case round=>
  obtain⟨j,l,hj,rfl,hll,hte,ho,hbw⟩:=hrel
  obtain⟨A4,c4,rfl⟩:=zp ho
  have hsz:=hbw.size
  have hwr:Below w.heap.size w wr:=HB1.out.trans (hbw.mono (by omega))
  obtain⟨⟨r0,r1⟩,_⟩:=zE ((hbw.block w.heap.size (by omega)).trans HX0.out)
  obtain⟨d0,d1,d2,d3,d4⟩:=qP ((hbw.block (w.heap.size+1) (by omega)).trans HX1.out)
  have HBW:=hid hbw
  have HWR:=hid hwr
  have HO:=hid ho
  have HTE:=hid hte
  have HER:=hid (HE.out.below (hwr.mono HE.out.hB))
  have hss0:w.heap.size<wr.heap.size:=by omega
  have hss1:w.heap.size+1<wr.heap.size:=by omega
  clear hbw hwr ho hte
  by_cases hlt:j<args.length
  · obtain⟨⟨k',op',n',s',as'⟩,he⟩:∃ e,args[j]? =some e:=⟨_,List.getElem?_eq_getElem hlt⟩
    obtain⟨g,o,v',rfl,hg,y0,y1,y2,y3,y4,hsl⟩:=(HX.out.below (HWR.out.mono HE.out.hB) (Nat.le_refl _)).cells he
    obtain⟨A5,c5,rfl,_⟩:=hsl.form
    have HEX:=hid (show vB B wr (.mk k' op' n' s' as') (.agg #[.int .i64 k',.int .i64 op',.int .i64 n',.string s',.slice A5 as'.length c5]) from⟨_,rfl,(HX.out.below (HWR.out.mono HE.out.hB) (Nat.le_refl _)).range he,hsl⟩)
    have hgs:g<wr.heap.size:=by have:=HE.out.hB;omega
    obtain⟨⟨t,f⟩,htf⟩:∃ r,zq p vars (.mk k' op' n' s' as')=r:=⟨_,rfl⟩
    have HTF:=hid htf
    have HOK:=hid (qJ HM.out he)
    have HEE:=hid he
    clear hsl htf he
    by_cases hf0:f=0
    all_goals (try subst hf0)
    all_goals
     go_wp2_with (fail)
     go_region_held3 (fun w'=>w'.cell? ⟨w.heap.size,0,none⟩=some (.slice A0 p.arrays.length c0)∧w'.cell? ⟨w.heap.size,1,none⟩=some (.slice (some ⟨gF,oF,none⟩) p.funcs.length c1)∧w'.cell? ⟨w.heap.size+1,4,none⟩=some (.slice (some ⟨g,o,none⟩) args.length c)∧w'.cell? ⟨g,o+j * 5,none⟩=some (.int .i64 k')∧w'.cell? ⟨g,o+j * 5+1,none⟩=some (.int .i64 op')∧w'.cell? ⟨g,o+j * 5+2,none⟩=some (.int .i64 n')∧w'.cell? ⟨g,o+j * 5+3,none⟩=some (.string s')∧w'.cell? ⟨g,o+j * 5+4,none⟩=some (.slice A5 as'.length c5))
      (first
        | (go_split_ands;refine⟨?_,?_,?_,?_,?_,?_,?_,?_⟩ <;> (first | (rw[hk5];assumption) | (rw[hx5];assumption) | (rw[hg5];assumption)))
        | go_keep)
      (first
        | (go_at_call 33
           (refine(HIH.out.call (w:=wr.drew) HOK.out HP.out HTF.out (HER.out.below (Below.refl _ _).drew) (HEX.out.below (Below.refl _ _).drew (Nat.le_refl _))).mono ?_)
           rintro e w5 ⟨rfl,hb⟩
           have hb5:Below wr.heap.size wr w5:=(Below.refl _ _).drew.trans hb
           have hz5:wr.heap.size≤w5.heap.size:=hb5.size
           have hk5:∀ k,w5.cell? ⟨w.heap.size,k,none⟩=wr.cell? ⟨w.heap.size,k,none⟩:=fun k=>hb5.cell (p:=⟨w.heap.size,k,none⟩) hss0
           have hx5:∀ k,w5.cell? ⟨w.heap.size+1,k,none⟩=wr.cell? ⟨w.heap.size+1,k,none⟩:=fun k=>hb5.cell (p:=⟨w.heap.size+1,k,none⟩) hss1
           have hg5:∀ k,w5.cell? ⟨g,k,none⟩=wr.cell? ⟨g,k,none⟩:=fun k=>hb5.cell (p:=⟨g,k,none⟩) hgs
           have HB5:=hid hb5
           have HO5:=hid (zh (zZ HO.out fun k hk=>hb5.block k (zH HO.out k hk).2) (.cells #[.int .i64 t] 3))
           have HN5:=hid (kh w5 [.int .i64 t] 3)
           clear hb hb5))
    · go_wp2_with (at_builtin;refine wpList_append_own _ rfl (.tmp 97) (.tmp 99) _ rfl w1.heap.size 3 i0 _ 1 8 Tryd.underlying100 HI0.out.1 HI0.out.2.1 HI0.out.2.2.1 HI0.out.2.2.2 rfl (by omega) (.slice A4 j c4) j _ rfl (by exact HO5.out) ⟨w5.heap.size,0,none⟩ 1 1 [.int .i64 t] rfl rfl (by exact HN5.out) (by simp[Value.oneCell']) (by simp only[maxLen];omega) (by omega) (by simp;omega) ?_
                   intro v6 w6 hown6 hg6 _
                   have HG6:=hid hg6
                   have HO6:=hid hown6
                   clear hown6 hg6)
      go_roundw
      case rel=>
       refine⟨j+1,l++[t],by omega,by go_num,by simp[hll],?_,?_,?_⟩
       · have:=jq HTE.out HEE.out (by rw[HTF.out])
         rwa [HTF.out]at this
       · rw[←xN];exact HO6.out
       · exact((HBW.out.trans (HB5.out.mono (by omega))).alloc (by omega) _).grown HG6.out (by simp;omega) fun k hk=>(zH HO5.out k hk).1
      case measure=>simp[intOf];omega
    · go_wp2_with (fail)
      go_ret2
      have hrr:=HPRE.out
      rw[ki HTE.out HEE.out (by rw[HTF.out];exact hf0),HTF.out]at hrr
      rw[HR.out]at hrr
      subst hrr
      exact⟨rfl,HWR.out.trans (HB5.out.mono (by omega))⟩
  · have hjl:j=args.length:=by omega
    subst hjl
    have HTA:=hid (show zV p vars args=.inr l by have:=HTE.out;rwa [List.take_of_length_le (Nat.le_refl _)]at this)
    clear HTE hj hlt
    have HOL:=hid (zZ (w':=wr) HO.out fun _ _=>rfl)
    have u1:wr.cell? ⟨gF,oF+q * 4+1,none⟩=some (.int .i64 f.type):=(HBW.out.cell (p:=⟨gF,_,none⟩) hgF1).trans z1
    have u2:wr.cell? ⟨gF,oF+q * 4+2,none⟩=some (.slice A6 f.params.length c6):=(HBW.out.cell (p:=⟨gF,_,none⟩) hgF1).trans z2
    have hgF2:gF<wr.heap.size:=by omega
    go_wp2_with (fail)
    go_loopw [15] (fun iv wr2=>∃ i nq:Nat,i≤args.length∧iv=.int .i64 i∧(∀ q,q<i→l[q]? =(f.params.map (·.type))[q]?)∧wr2=wr.drewN nq) (fun iv _=>args.length-(intOf iv).toNat)
    case atStart=>exact⟨0,0,Nat.zero_le _,rfl,fun q hq=>absurd hq (by omega),rfl⟩
    case round=>
     obtain⟨i,nq,hi,rfl,hok,rfl⟩:=hrel
     have HOKN:=hid hok
     clear hok
     by_cases hlt:i<args.length
     · have hlp:i<f.params.length:=by have:=HC.out;omega
       obtain⟨x,hx⟩:∃ e,l[i]? =some e:=⟨_,List.getElem?_eq_getElem (by omega)⟩
       obtain⟨y,hy⟩:∃ e,f.params[i]? =some e:=⟨_,List.getElem?_eq_getElem hlp⟩
       obtain⟨gl,c7,hA4,hgl⟩:∃ g c,Value.slice A4 args.length c4=.slice (some ⟨g,0,none⟩) args.length c∧g<wr.heap.size:=by
        rcases HO.out.2 with⟨_,h0⟩ | ⟨g,cap,cur,hv,_,h2,_⟩
        · omega
        · exact⟨g,cap,hv,zB h2⟩
       injection hA4 with hA4 _ hc4
       subst hA4 hc4
       obtain⟨gp,op',rfl,hgp,y0,y1⟩:=(HPZ.out.below (HBW.out.mono HE1.out.hB) (Nat.le_refl _)).cells hy
       have hgp2:gp<wr.heap.size:=by have:=HE1.out.hB;omega
       have hx0:wr.cell? ⟨gl,i,none⟩=some (.int .i64 x):=(HO.out.cellAt i (by omega)).trans (by rw[List.getElem?_map,hx];rfl)
       have HXI:=hid hx
       have HY:=hid hy
       clear hx hy
       by_cases h2:x=y.type
       · have b2:(x != y.type)=false:=by simp[h2]
         have HXY:=hid h2
         clear h2
         go_wp2_with (fail)
         go_quiet (fail)
         go_wp2_with (fail)
         go_roundw
         case rel=>
          refine⟨i+1,_,by omega,by go_num,fun k hk=>?_,rfl⟩
          by_cases hki:k=i
          · subst hki
            rw[HXI.out,List.getElem?_map,HY.out,HXY.out]
            rfl
          · exact HOKN.out k (by omega)
         case measure=>simp[intOf];omega
       · have b2:(x != y.type)=true:=by simp[h2]
         go_wp2_with (fail)
         go_quiet (fail)
         go_wp2_with (fail)
         go_ret2
         have hrr:=HPRE.out
         rw[HTA.out,HR.out]at hrr
         dsimp only at hrr
         rw[show qH p vars 7 op s l=(0,51) from by rw[HNY.out,if_neg (by intro e;apply h2;have h3:=HXI.out;rw[e,List.getElem?_map,HY.out]at h3;exact(Option.some.inj h3).symm)]]at hrr
         subst hrr
         exact⟨rfl,bdN (bdN HWR.out _) _⟩
     · have hil:i=args.length:=by omega
       subst hil
       go_wp2_with (fail)
       go_ret2
       have hrr:=HPRE.out
       rw[HTA.out,HR.out]at hrr
       dsimp only at hrr
       rw[show qH p vars 7 op s l=(f.type,0) from by rw[HNY.out,if_pos (List.ext_getElem? fun k=>by by_cases hk:k<args.length;exact HOKN.out k hk;rw[List.getElem?_eq_none (by omega),List.getElem?_eq_none (by rw[List.length_map];have:=HC.out;omega)])]]at hrr
       subst hrr
       exact⟨rfl,bdN HWR.out _⟩
theorem rtype_all:∀ m,RTC m
 | 0=>fun _ _ _ e _ _ _ _ _ _ h=>by
   obtain⟨k,op,n,s,args⟩:=e
   rw[qY]at h
   simp at h
 | m+1=>fun B p vars e r x v0 v1 v w h hp hr hE hx=>by
   obtain⟨k,op,n,s,args⟩:=e
   rw[qY,Bool.and_eq_true,Bool.and_eq_true]at h
   obtain⟨⟨_,hf⟩,hm⟩:=h
   rw[Nat.add_sub_cancel]at hm
   obtain⟨va,rfl,_,hs⟩:=hx
   have ih:=rtype_all m
   rcases yT hf with rfl | rfl | rfl | rfl | rfl | rfl | rfl | rfl
   · exact rtype_num m ih B p vars op n s args r va v0 v1 v w hf hm hp hE hs (by rw[jD hf (by decide)];decide) hr
   · exact rtype_truth m ih B p vars op n s args r va v0 v1 v w hf hm hp hE hs (by rw[jD hf (by decide)];decide) hr
   · cases hv:zi vars s with
     | none=>exact rtype_var_no m ih B p vars op n s args r va v0 v1 v w hf hm hp hE hs hv (by rw[jD hf (by decide)];decide) hr
     | some t=>exact rtype_var m ih B p vars op n s args r va v0 v1 v w hf hm hp hE hs t hv (by rw[jD hf (by decide)];decide) hr
   · exact rtype_one m ih B p vars op n s args r va v0 v1 v w hf hm hp hE hs (by obtain⟨a,rfl⟩:=fE_one hf;simp) hr
   · exact rtype_two m ih B p vars op n s args r va v0 v1 v w hf hm hp hE hs (by obtain⟨a,c,rfl⟩:=fE_two hf;simp) hr
   · have h1:args.length=1:=by obtain⟨a,rfl⟩:=fE_index hf;rfl
     cases hv:qg p.arrays s with
     | none=>exact rtype_index_no m ih B p vars op n s args r va v0 v1 v w hf hm hp hE hs hv (by omega) hr
     | some q=>exact rtype_index m ih B p vars op n s args r va v0 v1 v w hf hm hp hE hs q hv h1 (by omega) hr
   · have h8:args.length≤8:=by simp[z6]at hf;exact hf.2
     cases hv:qF p.funcs s with
     | none=>exact rtype_call_no m ih B p vars op n s args r va v0 v1 v w hf hm hp hE hs hv h8 hr
     | some q=>
       obtain⟨f,hq,_⟩:=yS hv
       by_cases hc:args.length=f.params.length
       · exact rtype_call m ih B p vars op n s args r va v0 v1 v w hf hm hp hE hs q f hv hq hc h8 hr
       · exact rtype_call_count m ih B p vars op n s args r va v0 v1 v w hf hm hp hE hs q f hv hq hc h8 hr
   · exact rtype_read m ih B p vars op n s args r va v0 v1 v w hf hm hp hE hs (by rw[jD hf (by decide)];decide) hr
end Go.Proofs.YtndgkfkieogplaaDoor
