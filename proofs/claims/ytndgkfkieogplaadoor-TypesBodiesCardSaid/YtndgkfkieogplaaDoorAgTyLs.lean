import Derived.Test.YtndgkfkieogplaaDoorAgTyEnd
import Derived.Test.YtndgkfkieogplaaDoorAgTokScan
import Derived.Test.YtndgkfkieogplaaDoorAgTyRt
set_option linter.unusedSimpArgs false
set_option linter.unusedVariables false
set_option maxRecDepth 100000
/- Lists of statements, as package types checks them: the plain part; how a program and variables stay where the checker's own block alone is written. -/
namespace Go.Proofs.YtndgkfkieogplaaDoor
open Lib (hid)
open Go.RowKit
def W64 (n:Nat):Int:=IntKind.wrap .i64 (n:Int)
theorem w64_succ (n:Nat):IntKind.wrap .i64 (W64 n+1)=W64 (n+1):=by
 unfold W64
 simp only[IntKind.wrap,IntKind.bits,IntKind.signed]
 simp
 omega
theorem jt {b B L:Nat} {w w':World} (h:OffB b B w w') (hC:L≤B) (hb:L≤b):Below L w w':=by
 have g:Below B (hole b w) (hole b w'):=h
 exact⟨g.os,g.tape,g.output,h.size,fun k hk=>h.block (by omega) (by omega)⟩
theorem Env.off {B C b:Nat} {p:Pr} {vars:List Pa} {v0 v1 v:Value} {w w':World} (h:Env B C p vars v0 v1 v w) (ho:OffB b w.heap.size w w') (hB:B≤b) (hC:b<C):Env B C p vars v0 v1 v w' where
 hB:=Nat.le_trans h.hB ho.size
 hC:=Nat.le_trans h.hC ho.size
 ha:=h.ha.below (jt ho h.hB hB) (Nat.le_refl _)
 hf:=h.hf.below (jt ho h.hB hB) (Nat.le_refl _)
 hs:=(h.hs.keep fun g hg hl=>ho.block hl (by omega)).up ho.size
theorem fin_off {b C:Nat} {u:Value} {w w':World} {cs:Array Value} (h:ui w C u) (ho:OffB b w.heap.size w w') (hC:C≤w.heap.size) (hb:w.heap[b]? =some (.cells cs 94 (0,0))):ui w' C u:=
 h.keep fun g hg ⟨ds,hd⟩=>ho.block (by omega) fun e=>by
  subst e
  rw[hb]at hd
  injection hd with hd
  injection hd with _ hd _
  exact absurd hd (by decide)
theorem xp (p:Pr) (vars:List Pa) (a:Ex) (t:Int):kW p vars [a] t=qb p vars a t:=by
 rw[kW,kW]
 split <;> simp_all
theorem argsT_two (p:Pr) (vars:List Pa) (a c:Ex) (t:Int):kW p vars [a,c] t=if qb p vars a t=0 then qb p vars c t else qb p vars a t:=by
 rw[kW,xp]
 split <;> simp_all
theorem formS_ten {k ty:Int} {name:ByteArray} {a b c:Nat} {ic:Bool} (h:zX k ty name a b c ic=true):k=1∨k=2∨k=3∨k=4∨k=5∨k=6∨k=7∨k=8∨k=9∨k=10:=by
 by_cases h':k=1∨k=2∨k=3∨k=4∨k=5∨k=6∨k=7∨k=8∨k=9∨k=10
 · exact h'
 · exfalso
   unfold zX at h
   rw[if_neg (by omega),if_neg (by omega),if_neg (by omega),if_neg (by omega),if_neg (by omega),if_neg (by omega),if_neg (by omega),if_neg (by omega)]at h
   cases h
theorem own_stm {p:Pr} {vars:List Pa} {ft k ty:Int} {name:ByteArray} {args:List Ex} {frm b c:Nat} {loop ic:Bool} (hf:zX k ty name args.length b c ic=true) (hk:k≠1):qm p ft k ty name args vars frm loop=jY p vars ft k ty name args loop:=by
 rcases formS_ten hf with rfl | rfl | rfl | rfl | rfl | rfl | rfl | rfl | rfl | rfl
 · exact absurd rfl hk
 · obtain⟨a,rfl⟩:∃ a,args=[a]:=by simp[zX]at hf;exact List.length_eq_one_iff.1 hf.1.1.2
   simp only[qm,jY,xp]
   cases zi vars name <;> simp
 · obtain⟨a,d,rfl⟩:∃ a d,args=[a,d]:=by
    simp[zX]at hf
    match args,hf.1.1.2 with
    | [a,d],_=>exact⟨a,d,rfl⟩
   simp[qm,jY,argsT_two]
 · obtain⟨a,rfl⟩:∃ a,args=[a]:=by simp[zX]at hf;exact List.length_eq_one_iff.1 hf.2
   simp[qm,jY,xp]
 · obtain⟨a,rfl⟩:∃ a,args=[a]:=by simp[zX]at hf;exact List.length_eq_one_iff.1 hf.1.2
   simp[qm,jY,xp]
 · simp[qm,jY]
 · simp[qm,jY]
 · obtain⟨a,rfl⟩:∃ a,args=[a]:=by simp[zX]at hf;exact List.length_eq_one_iff.1 hf.1.1.2
   simp[qm,jY,xp]
 · obtain⟨a,rfl⟩:∃ a,args=[a]:=by simp[zX]at hf;exact List.length_eq_one_iff.1 hf.1.1.2
   simp[qm,jY,xp]
 · simp[qm,jY]
theorem own_let {p:Pr} {vars:List Pa} {ft ty:Int} {name:ByteArray} {args:List Ex} {frm b c:Nat} {loop ic:Bool} (hf:zX 1 ty name args.length b c ic=true):
 qm p ft 1 ty name args vars frm loop=if jY p vars ft 1 ty name args loop≠0 then jY p vars ft 1 ty name args loop else if (zi (vars.drop frm) name).isSome then 50 else 0:=by
 obtain⟨a,rfl⟩:∃ a,args=[a]:=by simp[zX]at hf;exact List.length_eq_one_iff.1 hf.1.1.2
 simp[qm,jY,xp]
theorem own_cases {p:Pr} {vars:List Pa} {ft k ty:Int} {name:ByteArray} {args:List Ex} {frm b c:Nat} {loop ic:Bool} (hf:zX k ty name args.length b c ic=true):
 qm p ft k ty name args vars frm loop=if jY p vars ft k ty name args loop≠0 then jY p vars ft k ty name args loop else if k=1∧(zi (vars.drop frm) name).isSome=true then 50 else 0:=by
 by_cases hk:k=1
 · subst hk
   rw[own_let hf]
   simp
 · rw[own_stm hf hk]
   by_cases h:jY p vars ft k ty name args loop=0
   · simp[h,hk]
   · simp[h]
def LsPost (b:Nat) (w:World) (v0 v1:Value) (ft:Int) (R:Int × Nat) (e:Ending) (w':World):Prop:=
 e=.returned (.int .i64 R.1)∧OffB b w.heap.size w w'∧w'.heap[b]? =some (ckO v0 v1 ft (W64 R.2))
def LsC (m:Nat):Prop:=∀ (B C b:Nat) (p:Pr) (vars:List Pa) (l:List St) (loop:Bool) (n:Nat) (R:Int × Nat) (vl v0 v1 v:Value) (ft:Int) (w:World),
 zj l m=true→Few p→zU p ft l vars vars.length loop n=R→Env B C p vars v0 v1 v w→B≤b→b<C→w.heap[b]? =some (ckO v0 v1 ft (W64 n))→SlS B w vl l→
 Calls Tryd.prog 51 #[.pointer (some ⟨b,0,none⟩),vl,v,.bool loop] w (LsPost b w v0 v1 ft R)
theorem LsC.call {m:Nat} (h:LsC m) {B C b:Nat} {p:Pr} {vars:List Pa} {l:List St} {loop:Bool} {n:Nat} {R:Int × Nat} {vl v0 v1 v:Value} {ft:Int} {w:World}
 (h1:zj l m=true) (h2:Few p) (h3:zU p ft l vars vars.length loop n=R) (h4:Env B C p vars v0 v1 v w) (h5:B≤b) (h6:b<C) (h7:w.heap[b]? =some (ckO v0 v1 ft (W64 n))) (h8:SlS B w vl l):
 Calls Tryd.prog 51 #[.pointer (some ⟨b,0,none⟩),vl,v,.bool loop] w (LsPost b w v0 v1 ft R):=h B C b p vars l loop n R vl v0 v1 v ft w h1 h2 h3 h4 h5 h6 h7 h8
abbrev rckO (v0 v1:Value) (s:ByteArray) (t:Int) (v2 v3:Value) (n:Int):Obj:=.cells #[v0,v1,.string s,.int .i64 t,v2,v3,.int .i64 n] 72
theorem zP {w:World} {g:Nat} {c0 c1 c2 c3 c4 c5 c6:Value} {T:TypeId} (h:w.heap[g]? =some (.cells #[c0,c1,c2,c3,c4,c5,c6] T (0,0))):(w.cell? ⟨g,0,none⟩=some c0∧w.cell? ⟨g,1,none⟩=some c1∧w.cell? ⟨g,2,none⟩=some c2∧w.cell? ⟨g,3,none⟩=some c3∧w.cell? ⟨g,4,none⟩=some c4∧w.cell? ⟨g,5,none⟩=some c5∧w.cell? ⟨g,6,none⟩=some c6)∧∀ o,w.frozen? ⟨g,o,none⟩=false:=
 ⟨⟨(Lib.cell_of_heap h 0).trans rfl,(Lib.cell_of_heap h 1).trans rfl,(Lib.cell_of_heap h 2).trans rfl,(Lib.cell_of_heap h 3).trans rfl,(Lib.cell_of_heap h 4).trans rfl,(Lib.cell_of_heap h 5).trans rfl,(Lib.cell_of_heap h 6).trans rfl⟩,fun o=>by simp[World.frozen?,h]⟩
set_option maxHeartbeats 1600000 in
theorem kj (B b:Nat) (p:Pr) (vars:List Pa) (e:Ex) (t r:Int) (x v0 v1 v v2 v3:Value) (fs:ByteArray) (ft n:Int) (w:World) (hE:REnv B p vars v0 v1 v w) (hb:w.heap[b]? =some (rckO v0 v1 fs ft v2 v3 n)) (hx:vB B w e x) (hok:xU e 100=true) (hp:Few p) (hr:qb p vars e t=r):
 Calls Tryd.prog 68 #[.pointer (some ⟨b,0,none⟩),v,x,.int .i64 t] w fun e w'=>e=.returned (.int .i64 r)∧Below w.heap.size w w':=by
 obtain⟨A0,c0,A1,c1,A2,c2,rfl,rfl,rfl⟩:=hE.form
 obtain⟨k',op',n',s',as'⟩:=e
 obtain⟨va,rfl,hrg,hsl⟩:=hx
 dsimp only[Ex.kind,Ex.op,Ex.n,Ex.name,Ex.args]at hsl hrg ⊢
 obtain⟨A5,c5,rfl,_⟩:=hsl.form
 have hbl:=zB hb
 obtain⟨⟨b0,b1,b2,b3,b4,b5,b6⟩,bz⟩:=zP hb
 obtain⟨⟨ty,f⟩,htf⟩:∃ r,zq p vars (.mk k' op' n' s' as')=r:=⟨_,rfl⟩
 have hwe:(if f=0 then (if ty=t then 0 else 51) else f)=r:=by rw[←hr];unfold qb;rw[htf]
 have hw1:Below w.heap.size w (w.alloc (qO k' op' n' s' A5 as'.length c5)).drew:=((Below.refl _ _).alloc (Nat.le_refl _) _).drew
 have HW1:=hid hw1
 have HED:=hid (hE.below (hw1.mono hE.hB))
 have HXD:=hid (show vB B (w.alloc (qO k' op' n' s' A5 as'.length c5)).drew (.mk k' op' n' s' as') (.agg #[.int .i64 k',.int .i64 op',.int .i64 n',.string s',.slice A5 as'.length c5]) from⟨_,rfl,hrg,hsl.below (hw1.mono hE.hB) (Nat.le_refl _)⟩)
 have HTF:=hid htf
 have HWE:=hid hwe
 have HOK:=hid hok
 have HP:=hid hp
 have hrl:f=0∧ty=t∨f=0∧ty≠t∨f≠0:=by omega
 clear hE hb hsl hok hp hr htf hwe hw1 hrg
 rcases hrl with⟨h1,h2⟩ | ⟨h1,h2⟩ | h1
 all_goals
  first
   | (subst h1;subst h2)
   | (subst h1)
   | skip
  go_enter Tryd.func68,Tryd.ntmps68
  go_wp2_with (fail)
  go_region_held3 (fun w'=>w'.cell? ⟨b,0,none⟩=some (.slice A0 p.arrays.length c0)∧w'.cell? ⟨b,1,none⟩=some (.slice A1 p.funcs.length c1)∧w'.cell? ⟨w.heap.size,0,none⟩=some (.int .i64 k')∧w'.cell? ⟨w.heap.size,1,none⟩=some (.int .i64 op')∧w'.cell? ⟨w.heap.size,2,none⟩=some (.int .i64 n')∧w'.cell? ⟨w.heap.size,3,none⟩=some (.string s')∧w'.cell? ⟨w.heap.size,4,none⟩=some (.slice A5 as'.length c5))
   (first
     | (go_split_ands;refine⟨?_,?_,?_,?_,?_,?_,?_⟩ <;> (first | (rw[hq5];assumption) | (rw[hm5];simp;done)))
     | go_keep)
   (first
     | (go_at_call 33
        (refine((rtype_all 100).call (w:=(w.alloc (qO k' op' n' s' A5 as'.length c5)).drew) HOK.out HP.out HTF.out HED.out HXD.out).mono ?_)
        rintro e w2 ⟨rfl,hb2⟩
        have hb2':Below w.heap.size w w2:=HW1.out.trans (hb2.mono (by show w.heap.size≤(w.alloc _).heap.size;rw[zA];omega))
        have hq5:∀ o,w2.cell? ⟨b,o,none⟩=w.cell? ⟨b,o,none⟩:=fun o=>hb2'.cell (p:=⟨b,o,none⟩) hbl
        have hm5:∀ o,w2.cell? ⟨w.heap.size,o,none⟩=(w.alloc (qO k' op' n' s' A5 as'.length c5)).cell? ⟨w.heap.size,o,none⟩:=fun o=>hb2.cell (p:=⟨w.heap.size,o,none⟩) (by show w.heap.size<(w.alloc _).heap.size;rw[zA];omega)
        have HW2:=hid hb2'
        clear hb2 hb2'))
  go_wp2_with (fail)
  all_goals go_ret
  all_goals refine⟨zt ?_,HW2.out⟩
  all_goals
   have hwr:=HWE.out
   simp_all
theorem rdL_drop {α:Type} {size:Nat} {F:α→Nat→Nat→Prop}:∀ (k:Nat) (l:List α) (g o:Nat),uM size F l g o→uM size F (l.drop k) g (o+k * size)
 | 0,l,g,o,h=>by simpa using h
 | k+1,[],g,o,h=>trivial
 | k+1,a :: r,g,o,h=>by
   have:=rdL_drop k r g (o+size) h.2
   rw[List.drop_succ_cons,show o+(k+1) * size=o+size+k * size by rw[Nat.add_mul,Nat.one_mul];omega]
   exact this
theorem addr_add (g o k:Nat):(⟨g,o,none⟩:Addr).add k=⟨g,o+k,none⟩:=by unfold Addr.add;split <;> simp_all
theorem SlP.dropS {B:Nat} {w:World} {A:Option Addr} {c:Nat} {l:List Pa} (h:SlP B w (.slice A l.length c) l) (k:Nat) (hk:k≤l.length):SlP B w (.slice (if c=k then A else Option.map (fun x=>x.add (k * 2)) A) (l.length-k) (c-k)) (l.drop k):=by
 have hc:=h.2 A l.length c rfl
 refine⟨⟨_,c-k,by rw[List.length_drop],?_,fun hp=>?_⟩,fun A' n' c' hv=>by injection hv with _ h1 h2;omega⟩
 · obtain⟨_,_,_,hn⟩:=h.form
   rw[List.length_drop]
   omega
 · rw[List.length_drop]at hp
   obtain⟨g,o,rfl,hr⟩:=yv.elem h.1 rfl (by omega)
   refine⟨g,o+k * 2,?_,rdL_drop k l g o hr⟩
   rw[if_neg (by omega),Option.map_some,addr_add]
theorem rdL_take {α:Type} {size:Nat} {F:α→Nat→Nat→Prop}:∀ (k:Nat) (l:List α) (g o:Nat),uM size F l g o→uM size F (l.take k) g o
 | 0,l,g,o,h=>trivial
 | k+1,[],g,o,h=>trivial
 | k+1,a :: r,g,o,h=>⟨h.1,rdL_take k r g (o+size) h.2⟩
set_option linter.unusedSectionVars false
section
variable (B b:Nat) (p:Pr) (vars:List Pa) (ty:Int) (name:ByteArray) (args:List Ex) (frm:Nat) (loop:Bool) (A4:Option Addr) (n4 c4:Nat) (A5:Option Addr) (n5 c5:Nat) (r:Int) (v3 v0 v1 v v2 vb:Value) (fs:ByteArray) (ft n:Int) (w:World)
variable (hE:REnv B p vars v0 v1 v w) (hb:w.heap[b]? =some (rckO v0 v1 fs ft v2 vb n)) (hl:kf B w v3 args) (hok:zo args 100=true) (hp:Few p) (hfr:frm≤vars.length)
set_option maxHeartbeats 1600000 in
include hE hb hl hok hp hfr in
theorem rown_if (h1:args.length=1) (hr:qm p ft 4 ty name args vars frm loop=r):Calls Tryd.prog 55 #[.pointer (some ⟨b,0,none⟩),stV 4 ty name v3 (.slice A4 n4 c4) (.slice A5 n5 c5),v,.int .i64 (frm:Int),.bool loop] w fun e w'=>e=.returned (.int .i64 r)∧Below w.heap.size w w':=by
 have hpos:0<args.length:=by omega
 obtain⟨⟨ka,opa,nna,sa,asa⟩,hea⟩:∃ e,args[0]? =some e:=⟨_,List.getElem?_eq_getElem (by omega)⟩
 have hgda:args.getD 0 vS=.mk ka opa nna sa asa:=by
  rw[List.getD_eq_getElem?_getD,hea];rfl
 have HOa:=hid (qJ hok hea)
 have HR:=hid (show qb p vars (.mk ka opa nna sa asa) 2=r by rw[←hr,qm];rw[if_neg (by decide),if_neg (by decide),if_neg (by decide),if_pos (by decide),hgda])
 clear h1
 obtain⟨A0,c0,A1,c1,A2,c2,rfl,rfl,rfl⟩:=hE.form
 obtain⟨A3,c3,rfl,_⟩:=hl.form
 obtain⟨ga,oa,vaa,hAa,hga,ya0,ya1,ya2,ya3,ya4,hsla⟩:=hl.cells hea
 subst hAa
 rw[show oa+0 * 5=oa by omega]at ya0 ya1 ya2 ya3 ya4
 obtain⟨Ba,qa,rfl,_⟩:=hsla.form
 have hXa:vB B w (.mk ka opa nna sa asa) (.agg #[.int .i64 ka,.int .i64 opa,.int .i64 nna,.string sa,.slice Ba asa.length qa]):=⟨_,rfl,hl.range hea,hsla⟩
 have hgsa:ga<w.heap.size:=by have:=hE.hB;omega
 have hbl:=zB hb
 have hw1:Below w.heap.size w (w.alloc (qI 4 ty name (.slice (some ⟨ga,oa,none⟩) args.length c3) (.slice A4 n4 c4) (.slice A5 n5 c5))):=(Below.refl _ _).alloc (Nat.le_refl _) _
 have HW1:=hid hw1
 have HE:=hid hE
 have HE1:=hid (hE.below (hw1.mono hE.hB))
 have HED:=hid (hE.below (hw1.drew.mono hE.hB))
 have HB1:=hid ((hw1.block b hbl).trans hb)
 have HBD:=hid ((hw1.drew.block b hbl).trans hb)
 have HXa1:=hid (hXa.below (hw1.mono hE.hB) (Nat.le_refl _))
 have HXaD:=hid (hXa.below (hw1.drew.mono hE.hB) (Nat.le_refl _))
 have HP:=hid hp
 obtain⟨⟨b0,b1,b2,b3,b4,b5,b6⟩,bz⟩:=zP hb
 clear hE hb hl hok hp hr hw1 hea hgda hsla hXa
 go_enter Tryd.func55,Tryd.ntmps55
 go_wp2_with (go_at_call 68;(with_reducible refine(kj B b p vars _ _ _ _ _ _ _ _ _ fs ft n _ HE1.out HB1.out HXa1.out HOa.out HP.out HR.out).mono ?_);rintro e w2 ⟨rfl,hb2⟩)
 go_ret
 exact⟨rfl,HW1.out.trans (hb2.mono (by rw[zA];omega))⟩
set_option maxHeartbeats 1600000 in
include hE hb hl hok hp hfr in
theorem rown_while (h1:args.length=1) (hr:qm p ft 5 ty name args vars frm loop=r):Calls Tryd.prog 55 #[.pointer (some ⟨b,0,none⟩),stV 5 ty name v3 (.slice A4 n4 c4) (.slice A5 n5 c5),v,.int .i64 (frm:Int),.bool loop] w fun e w'=>e=.returned (.int .i64 r)∧Below w.heap.size w w':=by
 have hpos:0<args.length:=by omega
 obtain⟨⟨ka,opa,nna,sa,asa⟩,hea⟩:∃ e,args[0]? =some e:=⟨_,List.getElem?_eq_getElem (by omega)⟩
 have hgda:args.getD 0 vS=.mk ka opa nna sa asa:=by
  rw[List.getD_eq_getElem?_getD,hea];rfl
 have HOa:=hid (qJ hok hea)
 have HR:=hid (show qb p vars (.mk ka opa nna sa asa) 2=r by rw[←hr,qm];rw[if_neg (by decide),if_neg (by decide),if_neg (by decide),if_pos (by decide),hgda])
 clear h1
 obtain⟨A0,c0,A1,c1,A2,c2,rfl,rfl,rfl⟩:=hE.form
 obtain⟨A3,c3,rfl,_⟩:=hl.form
 obtain⟨ga,oa,vaa,hAa,hga,ya0,ya1,ya2,ya3,ya4,hsla⟩:=hl.cells hea
 subst hAa
 rw[show oa+0 * 5=oa by omega]at ya0 ya1 ya2 ya3 ya4
 obtain⟨Ba,qa,rfl,_⟩:=hsla.form
 have hXa:vB B w (.mk ka opa nna sa asa) (.agg #[.int .i64 ka,.int .i64 opa,.int .i64 nna,.string sa,.slice Ba asa.length qa]):=⟨_,rfl,hl.range hea,hsla⟩
 have hgsa:ga<w.heap.size:=by have:=hE.hB;omega
 have hbl:=zB hb
 have hw1:Below w.heap.size w (w.alloc (qI 5 ty name (.slice (some ⟨ga,oa,none⟩) args.length c3) (.slice A4 n4 c4) (.slice A5 n5 c5))):=(Below.refl _ _).alloc (Nat.le_refl _) _
 have HW1:=hid hw1
 have HE:=hid hE
 have HE1:=hid (hE.below (hw1.mono hE.hB))
 have HED:=hid (hE.below (hw1.drew.mono hE.hB))
 have HB1:=hid ((hw1.block b hbl).trans hb)
 have HBD:=hid ((hw1.drew.block b hbl).trans hb)
 have HXa1:=hid (hXa.below (hw1.mono hE.hB) (Nat.le_refl _))
 have HXaD:=hid (hXa.below (hw1.drew.mono hE.hB) (Nat.le_refl _))
 have HP:=hid hp
 obtain⟨⟨b0,b1,b2,b3,b4,b5,b6⟩,bz⟩:=zP hb
 clear hE hb hl hok hp hr hw1 hea hgda hsla hXa
 go_enter Tryd.func55,Tryd.ntmps55
 go_wp2_with (go_at_call 68;(with_reducible refine(kj B b p vars _ _ _ _ _ _ _ _ _ fs ft n _ HE1.out HB1.out HXa1.out HOa.out HP.out HR.out).mono ?_);rintro e w2 ⟨rfl,hb2⟩)
 go_ret
 exact⟨rfl,HW1.out.trans (hb2.mono (by rw[zA];omega))⟩
set_option maxHeartbeats 1600000 in
include hE hb hl hok hp hfr in
theorem rown_print (h1:args.length=1) (hr:qm p ft 9 ty name args vars frm loop=r):Calls Tryd.prog 55 #[.pointer (some ⟨b,0,none⟩),stV 9 ty name v3 (.slice A4 n4 c4) (.slice A5 n5 c5),v,.int .i64 (frm:Int),.bool loop] w fun e w'=>e=.returned (.int .i64 r)∧Below w.heap.size w w':=by
 have hpos:0<args.length:=by omega
 obtain⟨⟨ka,opa,nna,sa,asa⟩,hea⟩:∃ e,args[0]? =some e:=⟨_,List.getElem?_eq_getElem (by omega)⟩
 have hgda:args.getD 0 vS=.mk ka opa nna sa asa:=by
  rw[List.getD_eq_getElem?_getD,hea];rfl
 have HOa:=hid (qJ hok hea)
 have HR:=hid (show qb p vars (.mk ka opa nna sa asa) 1=r by rw[←hr,qm];rw[if_neg (by decide),if_neg (by decide),if_neg (by decide),if_neg (by decide),if_neg (by decide),if_pos (by decide),hgda])
 clear h1
 obtain⟨A0,c0,A1,c1,A2,c2,rfl,rfl,rfl⟩:=hE.form
 obtain⟨A3,c3,rfl,_⟩:=hl.form
 obtain⟨ga,oa,vaa,hAa,hga,ya0,ya1,ya2,ya3,ya4,hsla⟩:=hl.cells hea
 subst hAa
 rw[show oa+0 * 5=oa by omega]at ya0 ya1 ya2 ya3 ya4
 obtain⟨Ba,qa,rfl,_⟩:=hsla.form
 have hXa:vB B w (.mk ka opa nna sa asa) (.agg #[.int .i64 ka,.int .i64 opa,.int .i64 nna,.string sa,.slice Ba asa.length qa]):=⟨_,rfl,hl.range hea,hsla⟩
 have hgsa:ga<w.heap.size:=by have:=hE.hB;omega
 have hbl:=zB hb
 have hw1:Below w.heap.size w (w.alloc (qI 9 ty name (.slice (some ⟨ga,oa,none⟩) args.length c3) (.slice A4 n4 c4) (.slice A5 n5 c5))):=(Below.refl _ _).alloc (Nat.le_refl _) _
 have HW1:=hid hw1
 have HE:=hid hE
 have HE1:=hid (hE.below (hw1.mono hE.hB))
 have HED:=hid (hE.below (hw1.drew.mono hE.hB))
 have HB1:=hid ((hw1.block b hbl).trans hb)
 have HBD:=hid ((hw1.drew.block b hbl).trans hb)
 have HXa1:=hid (hXa.below (hw1.mono hE.hB) (Nat.le_refl _))
 have HXaD:=hid (hXa.below (hw1.drew.mono hE.hB) (Nat.le_refl _))
 have HP:=hid hp
 obtain⟨⟨b0,b1,b2,b3,b4,b5,b6⟩,bz⟩:=zP hb
 clear hE hb hl hok hp hr hw1 hea hgda hsla hXa
 go_enter Tryd.func55,Tryd.ntmps55
 go_wp2_with (go_at_call 68;(with_reducible refine(kj B b p vars _ _ _ _ _ _ _ _ _ fs ft n _ HE1.out HB1.out HXa1.out HOa.out HP.out HR.out).mono ?_);rintro e w2 ⟨rfl,hb2⟩)
 go_ret
 exact⟨rfl,HW1.out.trans (hb2.mono (by rw[zA];omega))⟩
set_option maxHeartbeats 1600000 in
include hE hb hl hok hp hfr in
theorem rown_return (h1:args.length=1) (hr:qm p ft 8 ty name args vars frm loop=r):Calls Tryd.prog 55 #[.pointer (some ⟨b,0,none⟩),stV 8 ty name v3 (.slice A4 n4 c4) (.slice A5 n5 c5),v,.int .i64 (frm:Int),.bool loop] w fun e w'=>e=.returned (.int .i64 r)∧Below w.heap.size w w':=by
 have hpos:0<args.length:=by omega
 obtain⟨⟨ka,opa,nna,sa,asa⟩,hea⟩:∃ e,args[0]? =some e:=⟨_,List.getElem?_eq_getElem (by omega)⟩
 have hgda:args.getD 0 vS=.mk ka opa nna sa asa:=by
  rw[List.getD_eq_getElem?_getD,hea];rfl
 have HOa:=hid (qJ hok hea)
 have HR:=hid (show qb p vars (.mk ka opa nna sa asa) ft=r by rw[←hr,qm];rw[if_neg (by decide),if_neg (by decide),if_neg (by decide),if_neg (by decide),if_pos (by decide),hgda])
 clear h1
 obtain⟨A0,c0,A1,c1,A2,c2,rfl,rfl,rfl⟩:=hE.form
 obtain⟨A3,c3,rfl,_⟩:=hl.form
 obtain⟨ga,oa,vaa,hAa,hga,ya0,ya1,ya2,ya3,ya4,hsla⟩:=hl.cells hea
 subst hAa
 rw[show oa+0 * 5=oa by omega]at ya0 ya1 ya2 ya3 ya4
 obtain⟨Ba,qa,rfl,_⟩:=hsla.form
 have hXa:vB B w (.mk ka opa nna sa asa) (.agg #[.int .i64 ka,.int .i64 opa,.int .i64 nna,.string sa,.slice Ba asa.length qa]):=⟨_,rfl,hl.range hea,hsla⟩
 have hgsa:ga<w.heap.size:=by have:=hE.hB;omega
 have hbl:=zB hb
 have hw1:Below w.heap.size w (w.alloc (qI 8 ty name (.slice (some ⟨ga,oa,none⟩) args.length c3) (.slice A4 n4 c4) (.slice A5 n5 c5))):=(Below.refl _ _).alloc (Nat.le_refl _) _
 have HW1:=hid hw1
 have HE:=hid hE
 have HE1:=hid (hE.below (hw1.mono hE.hB))
 have HED:=hid (hE.below (hw1.drew.mono hE.hB))
 have HB1:=hid ((hw1.block b hbl).trans hb)
 have HBD:=hid ((hw1.drew.block b hbl).trans hb)
 have HXa1:=hid (hXa.below (hw1.mono hE.hB) (Nat.le_refl _))
 have HXaD:=hid (hXa.below (hw1.drew.mono hE.hB) (Nat.le_refl _))
 have HP:=hid hp
 obtain⟨⟨b0,b1,b2,b3,b4,b5,b6⟩,bz⟩:=zP hb
 clear hE hb hl hok hp hr hw1 hea hgda hsla hXa
 go_enter Tryd.func55,Tryd.ntmps55
 go_wp2_with (fail)
 go_region_held3 (fun w'=>w'.cell? ⟨b,3,none⟩=some (.int .i64 ft)∧w'.cell? ⟨w.heap.size,3,none⟩=some (.slice (some ⟨ga,oa,none⟩) args.length c3)∧w'.cell? ⟨ga,oa,none⟩=some (.int .i64 ka)∧w'.cell? ⟨ga,oa+1,none⟩=some (.int .i64 opa)∧w'.cell? ⟨ga,oa+2,none⟩=some (.int .i64 nna)∧w'.cell? ⟨ga,oa+3,none⟩=some (.string sa)∧w'.cell? ⟨ga,oa+4,none⟩=some (.slice Ba asa.length qa))
  (first
    | (go_split_ands;refine⟨?_,?_,?_,?_,?_,?_,?_⟩ <;> (first | (rw[hq5];assumption) | (rw[hm5];simp;done) | (rw[hg5];assumption)))
    | go_keep)
  (first
    | (go_at_call 68
       (refine(kj B b p vars _ _ _ _ _ _ _ _ _ fs ft n (w.alloc (qI 8 ty name (.slice (some ⟨ga,oa,none⟩) args.length c3) (.slice A4 n4 c4) (.slice A5 n5 c5))).drew HED.out HBD.out HXaD.out HOa.out HP.out HR.out).mono ?_)
       rintro e w2 ⟨rfl,hb2⟩
       have hw2:Below w.heap.size w w2:=HW1.out.trans ((Below.refl _ _).drew.trans (hb2.mono (by show w.heap.size≤(w.alloc _).heap.size;rw[zA];omega)))
       have hq5:∀ x,w2.cell? ⟨b,x,none⟩=w.cell? ⟨b,x,none⟩:=fun x=>hw2.cell (p:=⟨b,x,none⟩) hbl
       have hm5:∀ x,w2.cell? ⟨w.heap.size,x,none⟩=(w.alloc (qI 8 ty name (.slice (some ⟨ga,oa,none⟩) args.length c3) (.slice A4 n4 c4) (.slice A5 n5 c5))).cell? ⟨w.heap.size,x,none⟩:=fun x=>hb2.cell (p:=⟨w.heap.size,x,none⟩) (by show w.heap.size<(w.alloc _).heap.size;rw[zA];omega)
       have hg5:∀ x,w2.cell? ⟨ga,x,none⟩=w.cell? ⟨ga,x,none⟩:=fun x=>hw2.cell (p:=⟨ga,x,none⟩) hgsa
       have HW2:=hid hw2
       clear hb2 hw2))
 go_wp2_with (fail)
 go_ret
 exact⟨rfl,HW2.out⟩
set_option maxHeartbeats 1600000 in
include hE hb hl hok hp hfr in
theorem rown_set_no (hv:zi vars name=none) (hr:qm p ft 2 ty name args vars frm loop=r):Calls Tryd.prog 55 #[.pointer (some ⟨b,0,none⟩),stV 2 ty name v3 (.slice A4 n4 c4) (.slice A5 n5 c5),v,.int .i64 (frm:Int),.bool loop] w fun e w'=>e=.returned (.int .i64 r)∧Below w.heap.size w w':=by
 have HR:=hid (show (50 :Int)=r by rw[←hr,qm];rw[if_neg (by decide),if_pos (by decide),hv])
 have HT:=hid (show (zi vars name).getD 0=0 by rw[hv];rfl)
 have HVB:=hid (show (zi vars name).isSome=false by rw[hv];rfl)
 clear hv
 obtain⟨A0,c0,A1,c1,A2,c2,rfl,rfl,rfl⟩:=hE.form
 obtain⟨A3,c3,rfl,_⟩:=hl.form
 have hbl:=zB hb
 have hw1:Below w.heap.size w (w.alloc (qI 2 ty name (.slice A3 args.length c3) (.slice A4 n4 c4) (.slice A5 n5 c5))):=(Below.refl _ _).alloc (Nat.le_refl _) _
 have HW1:=hid hw1
 have HE:=hid hE
 have HE1:=hid (hE.below (hw1.mono hE.hB))
 have HED:=hid (hE.below (hw1.drew.mono hE.hB))
 have HB1:=hid ((hw1.block b hbl).trans hb)
 have HBD:=hid ((hw1.drew.block b hbl).trans hb)
 have HP:=hid hp
 obtain⟨⟨b0,b1,b2,b3,b4,b5,b6⟩,bz⟩:=zP hb
 clear hE hb hl hok hp hr hw1
 go_enter Tryd.func55,Tryd.ntmps55
 go_wp2_with (go_at_call 28;(with_reducible refine(qd B vars name _ _ HT.out HVB.out _ _ HE1.out.hB HE1.out.hv).mono ?_);rintro e w9 ⟨rfl,rfl⟩)
 go_ret
 exact⟨zt HR.out,HW1.out⟩
set_option maxHeartbeats 1600000 in
include hE hb hl hok hp hfr in
theorem rown_set (t:Int) (hv:zi vars name=some t) (h1:args.length=1) (hr:qm p ft 2 ty name args vars frm loop=r):Calls Tryd.prog 55 #[.pointer (some ⟨b,0,none⟩),stV 2 ty name v3 (.slice A4 n4 c4) (.slice A5 n5 c5),v,.int .i64 (frm:Int),.bool loop] w fun e w'=>e=.returned (.int .i64 r)∧Below w.heap.size w w':=by
 have hpos:0<args.length:=by omega
 obtain⟨⟨ka,opa,nna,sa,asa⟩,hea⟩:∃ e,args[0]? =some e:=⟨_,List.getElem?_eq_getElem (by omega)⟩
 have hgda:args.getD 0 vS=.mk ka opa nna sa asa:=by
  rw[List.getD_eq_getElem?_getD,hea];rfl
 have HOa:=hid (qJ hok hea)
 have HR:=hid (show qb p vars (.mk ka opa nna sa asa) t=r by rw[←hr,qm];rw[if_neg (by decide),if_pos (by decide),hv,hgda])
 have HT:=hid (show (zi vars name).getD 0=t by rw[hv];rfl)
 have HVB:=hid (show (zi vars name).isSome=true by rw[hv];rfl)
 clear hv h1
 obtain⟨A0,c0,A1,c1,A2,c2,rfl,rfl,rfl⟩:=hE.form
 obtain⟨A3,c3,rfl,_⟩:=hl.form
 obtain⟨ga,oa,vaa,hAa,hga,ya0,ya1,ya2,ya3,ya4,hsla⟩:=hl.cells hea
 subst hAa
 rw[show oa+0 * 5=oa by omega]at ya0 ya1 ya2 ya3 ya4
 obtain⟨Ba,qa,rfl,_⟩:=hsla.form
 have hXa:vB B w (.mk ka opa nna sa asa) (.agg #[.int .i64 ka,.int .i64 opa,.int .i64 nna,.string sa,.slice Ba asa.length qa]):=⟨_,rfl,hl.range hea,hsla⟩
 have hgsa:ga<w.heap.size:=by have:=hE.hB;omega
 have hbl:=zB hb
 have hw1:Below w.heap.size w (w.alloc (qI 2 ty name (.slice (some ⟨ga,oa,none⟩) args.length c3) (.slice A4 n4 c4) (.slice A5 n5 c5))):=(Below.refl _ _).alloc (Nat.le_refl _) _
 have HW1:=hid hw1
 have HE:=hid hE
 have HE1:=hid (hE.below (hw1.mono hE.hB))
 have HED:=hid (hE.below (hw1.drew.mono hE.hB))
 have HB1:=hid ((hw1.block b hbl).trans hb)
 have HBD:=hid ((hw1.drew.block b hbl).trans hb)
 have HXa1:=hid (hXa.below (hw1.mono hE.hB) (Nat.le_refl _))
 have HXaD:=hid (hXa.below (hw1.drew.mono hE.hB) (Nat.le_refl _))
 have HP:=hid hp
 obtain⟨⟨b0,b1,b2,b3,b4,b5,b6⟩,bz⟩:=zP hb
 clear hE hb hl hok hp hr hw1 hea hgda hsla hXa
 go_enter Tryd.func55,Tryd.ntmps55
 go_wp2_with (first
  | (go_at_call 28;(with_reducible refine(qd B vars name _ _ HT.out HVB.out _ _ HE1.out.hB HE1.out.hv).mono ?_);rintro e w9 ⟨rfl,rfl⟩)
  | (go_at_call 68;(with_reducible refine(kj B b p vars _ _ _ _ _ _ _ _ _ fs ft n _ HE1.out HB1.out HXa1.out HOa.out HP.out HR.out).mono ?_);rintro e w2 ⟨rfl,hb2⟩))
 go_ret
 exact⟨rfl,HW1.out.trans (hb2.mono (by rw[zA];omega))⟩
set_option maxHeartbeats 1600000 in
include hE hb hl hok hp hfr in
theorem rown_put_no (hk:qg p.arrays name=none) (hr:qm p ft 3 ty name args vars frm loop=r):Calls Tryd.prog 55 #[.pointer (some ⟨b,0,none⟩),stV 3 ty name v3 (.slice A4 n4 c4) (.slice A5 n5 c5),v,.int .i64 (frm:Int),.bool loop] w fun e w'=>e=.returned (.int .i64 r)∧Below w.heap.size w w':=by
 have HR:=hid (show (50 :Int)=r by rw[←hr,qm];rw[if_neg (by decide),if_neg (by decide),if_pos (by decide),hk];rfl)
 have HK:=hid (show jQ (qg p.arrays name)= -1 by rw[hk];rfl)
 clear hk
 obtain⟨A0,c0,A1,c1,A2,c2,rfl,rfl,rfl⟩:=hE.form
 obtain⟨A3,c3,rfl,_⟩:=hl.form
 have hbl:=zB hb
 have hw1:Below w.heap.size w (w.alloc (qI 3 ty name (.slice A3 args.length c3) (.slice A4 n4 c4) (.slice A5 n5 c5))):=(Below.refl _ _).alloc (Nat.le_refl _) _
 have HW1:=hid hw1
 have HE:=hid hE
 have HE1:=hid (hE.below (hw1.mono hE.hB))
 have HED:=hid (hE.below (hw1.drew.mono hE.hB))
 have HB1:=hid ((hw1.block b hbl).trans hb)
 have HBD:=hid ((hw1.drew.block b hbl).trans hb)
 have HP:=hid hp
 obtain⟨⟨b0,b1,b2,b3,b4,b5,b6⟩,bz⟩:=zP hb
 clear hE hb hl hok hp hr hw1
 go_enter Tryd.func55,Tryd.ntmps55
 go_wp2_with (fail)
 go_region_held3 (fun w'=>w'.cell? ⟨b,0,none⟩=some (.slice A0 p.arrays.length c0)∧w'.cell? ⟨b,1,none⟩=some (.slice A1 p.funcs.length c1)∧w'.cell? ⟨w.heap.size,2,none⟩=some (.string name))
  (first
    | (go_split_ands;refine⟨?_,?_,?_⟩ <;> (first | (rw[hq5];assumption) | (rw[hm5];simp;done)))
    | go_keep)
  (first
    | (go_at_call 53
       (refine(xo B p name _ HK.out _ _ (w.alloc (qI 3 ty name (.slice A3 args.length c3) (.slice A4 n4 c4) (.slice A5 n5 c5))).drew HED.out.hB HED.out.ha HED.out.hf).mono ?_)
       rintro e w2 ⟨rfl,hb2⟩
       have hw2:Below w.heap.size w w2:=HW1.out.trans ((Below.refl _ _).drew.trans (hb2.mono (by show w.heap.size≤(w.alloc _).heap.size;rw[zA];omega)))
       have hq5:∀ x,w2.cell? ⟨b,x,none⟩=w.cell? ⟨b,x,none⟩:=fun x=>hw2.cell (p:=⟨b,x,none⟩) hbl
       have hm5:∀ x,w2.cell? ⟨w.heap.size,x,none⟩=(w.alloc (qI 3 ty name (.slice A3 args.length c3) (.slice A4 n4 c4) (.slice A5 n5 c5))).cell? ⟨w.heap.size,x,none⟩:=fun x=>hb2.cell (p:=⟨w.heap.size,x,none⟩) (by show w.heap.size<(w.alloc _).heap.size;rw[zA];omega)
       have HW2:=hid hw2
       clear hb2 hw2))
 go_wp2_with (fail)
 go_ret
 exact⟨zt HR.out,HW2.out⟩
set_option maxHeartbeats 1600000 in
include hE hb hl hok hp hfr in
theorem rown_put (k:Nat) (hk:qg p.arrays name=some k) (h1:args.length=2) (hr:qm p ft 3 ty name args vars frm loop=r):Calls Tryd.prog 55 #[.pointer (some ⟨b,0,none⟩),stV 3 ty name v3 (.slice A4 n4 c4) (.slice A5 n5 c5),v,.int .i64 (frm:Int),.bool loop] w fun e w'=>e=.returned (.int .i64 r)∧Below w.heap.size w w':=by
 have hpos:0<args.length:=by omega
 have hpos1:1<args.length:=by omega
 obtain⟨⟨ka,opa,nna,sa,asa⟩,hea⟩:∃ e,args[0]? =some e:=⟨_,List.getElem?_eq_getElem (by omega)⟩
 have hgda:args.getD 0 vS=.mk ka opa nna sa asa:=by
  rw[List.getD_eq_getElem?_getD,hea];rfl
 have HOa:=hid (qJ hok hea)
 obtain⟨⟨kc,opc,nnc,sc,asc⟩,hec⟩:∃ e,args[1]? =some e:=⟨_,List.getElem?_eq_getElem (by omega)⟩
 have hgdc:args.getD 1 vS=.mk kc opc nnc sc asc:=by
  rw[List.getD_eq_getElem?_getD,hec];rfl
 have HOc:=hid (qJ hok hec)
 have HR:=hid (show (if qb p vars (.mk ka opa nna sa asa) 1=0 then qb p vars (.mk kc opc nnc sc asc) 1 else qb p vars (.mk ka opa nna sa asa) 1)=r by have h:=hr;rw[qm,if_neg (by decide),if_neg (by decide),if_pos (by decide),hk,if_pos (by rfl),hgda,hgdc]at h;exact h)
 have HK:=hid (show jQ (qg p.arrays name)=(k:Int) by rw[hk];rfl)
 clear hk h1
 obtain⟨A0,c0,A1,c1,A2,c2,rfl,rfl,rfl⟩:=hE.form
 obtain⟨A3,c3,rfl,_⟩:=hl.form
 obtain⟨ga,oa,vaa,hAa,hga,ya0,ya1,ya2,ya3,ya4,hsla⟩:=hl.cells hea
 subst hAa
 rw[show oa+0 * 5=oa by omega]at ya0 ya1 ya2 ya3 ya4
 obtain⟨Ba,qa,rfl,_⟩:=hsla.form
 have hXa:vB B w (.mk ka opa nna sa asa) (.agg #[.int .i64 ka,.int .i64 opa,.int .i64 nna,.string sa,.slice Ba asa.length qa]):=⟨_,rfl,hl.range hea,hsla⟩
 have hgsa:ga<w.heap.size:=by have:=hE.hB;omega
 obtain⟨gc,oc,vac,hAc,hgc,yc0,yc1,yc2,yc3,yc4,hslc⟩:=hl.cells hec
 obtain⟨rfl,rfl⟩:ga=gc∧oa=oc:=by injection hAc with hAc;injection hAc with h1 h2 _;exact⟨h1,h2⟩
 rw[show oa+1 * 5=oa+5 by omega]at yc0 yc1 yc2 yc3 yc4
 obtain⟨Bc,qc,rfl,_⟩:=hslc.form
 have hXc:vB B w (.mk kc opc nnc sc asc) (.agg #[.int .i64 kc,.int .i64 opc,.int .i64 nnc,.string sc,.slice Bc asc.length qc]):=⟨_,rfl,hl.range hec,hslc⟩
 have hbl:=zB hb
 have hw1:Below w.heap.size w (w.alloc (qI 3 ty name (.slice (some ⟨ga,oa,none⟩) args.length c3) (.slice A4 n4 c4) (.slice A5 n5 c5))):=(Below.refl _ _).alloc (Nat.le_refl _) _
 have HW1:=hid hw1
 have HE:=hid hE
 have HE1:=hid (hE.below (hw1.mono hE.hB))
 have HED:=hid (hE.below (hw1.drew.mono hE.hB))
 have HB1:=hid ((hw1.block b hbl).trans hb)
 have HBD:=hid ((hw1.drew.block b hbl).trans hb)
 have HXa1:=hid (hXa.below (hw1.mono hE.hB) (Nat.le_refl _))
 have HXaD:=hid (hXa.below (hw1.drew.mono hE.hB) (Nat.le_refl _))
 have HXc1:=hid (hXc.below (hw1.mono hE.hB) (Nat.le_refl _))
 have HXcD:=hid (hXc.below (hw1.drew.mono hE.hB) (Nat.le_refl _))
 have HP:=hid hp
 obtain⟨⟨b0,b1,b2,b3,b4,b5,b6⟩,bz⟩:=zP hb
 clear hE hb hl hok hp hr hw1 hea hgda hsla hXa hec hgdc hslc hXc
 go_enter Tryd.func55,Tryd.ntmps55
 obtain⟨ra,hra⟩:∃ z,qb p vars (.mk ka opa nna sa asa) 1=z:=⟨_,rfl⟩
 obtain⟨rc,hrc⟩:∃ z,qb p vars (.mk kc opc nnc sc asc) 1=z:=⟨_,rfl⟩
 have HRA:=hid hra
 have HRC:=hid hrc
 have HRR:=hid (show (if ra=0 then rc else ra)=r by rw[←hra,←hrc];exact HR.out)
 clear hra hrc
 go_wp2_with (fail)
 go_region_held3 (fun w'=>w'.cell? ⟨b,0,none⟩=some (.slice A0 p.arrays.length c0)∧w'.cell? ⟨b,1,none⟩=some (.slice A1 p.funcs.length c1)∧w'.cell? ⟨w.heap.size,2,none⟩=some (.string name))
  (first
    | (go_split_ands;refine⟨?_,?_,?_⟩ <;> (first | (rw[hq5];assumption) | (rw[hm5];simp;done)))
    | go_keep)
  (first
    | (go_at_call 53
       (refine(xo B p name _ HK.out _ _ (w.alloc (qI 3 ty name (.slice (some ⟨ga,oa,none⟩) args.length c3) (.slice A4 n4 c4) (.slice A5 n5 c5))).drew HED.out.hB HED.out.ha HED.out.hf).mono ?_)
       rintro e w2 ⟨rfl,hb2⟩
       have hw2:Below w.heap.size w w2:=HW1.out.trans ((Below.refl _ _).drew.trans (hb2.mono (by show w.heap.size≤(w.alloc _).heap.size;rw[zA];omega)))
       have hq5:∀ x,w2.cell? ⟨b,x,none⟩=w.cell? ⟨b,x,none⟩:=fun x=>hw2.cell (p:=⟨b,x,none⟩) hbl
       have hm5:∀ x,w2.cell? ⟨w.heap.size,x,none⟩=(w.alloc (qI 3 ty name (.slice (some ⟨ga,oa,none⟩) args.length c3) (.slice A4 n4 c4) (.slice A5 n5 c5))).cell? ⟨w.heap.size,x,none⟩:=fun x=>hb2.cell (p:=⟨w.heap.size,x,none⟩) (by show w.heap.size<(w.alloc _).heap.size;rw[zA];omega)
       have hm3:w2.cell? ⟨w.heap.size,3,none⟩=some (.slice (some ⟨ga,oa,none⟩) args.length c3):=by rw[hm5];simp
       have hs2:w.heap.size<w2.heap.size:=by have:=hb2.size;simp at this;omega
       have HWD:=hid (show Below w.heap.size ((w.alloc (qI 3 ty name (.slice (some ⟨ga,oa,none⟩) args.length c3) (.slice A4 n4 c4) (.slice A5 n5 c5))).drew) w2 from hb2.mono (by show w.heap.size≤(w.alloc _).heap.size;rw[zA];omega))
       have HB2:=hid ((hw2.block b hbl).trans ((HW1.out.block b hbl).symm.trans HB1.out))
       have hg5:∀ x,w2.cell? ⟨ga,x,none⟩=w.cell? ⟨ga,x,none⟩:=fun x=>hw2.cell (p:=⟨ga,x,none⟩) hgsa
       have HW2:=hid hw2
       clear hb2 hw2))
 have HE2:=hid (HED.out.below (HWD.out.mono HE.out.hB))
 have HXa2:=hid (HXaD.out.below (HWD.out.mono HE.out.hB) (Nat.le_refl _))
 have HXc2:=hid (HXcD.out.below (HWD.out.mono HE.out.hB) (Nat.le_refl _))
 have z0:=(hg5 _).trans ya0
 have z1:=(hg5 _).trans ya1
 have z2:=(hg5 _).trans ya2
 have z3:=(hg5 _).trans ya3
 have z4:=(hg5 _).trans ya4
 have x0:=(hg5 _).trans yc0
 have x1:=(hg5 _).trans yc1
 have x2:=(hg5 _).trans yc2
 have x3:=(hg5 _).trans yc3
 have x4:=(hg5 _).trans yc4
 have hgs2:ga<w2.heap.size:=by have:=HW2.out.size;omega
 by_cases hra0:ra=0
 · subst hra0
   go_wp2_with (first
    | (go_at_call 68;(with_reducible refine(kj B b p vars _ _ _ _ _ _ _ _ _ fs ft n _ HE2.out HB2.out HXa2.out HOa.out HP.out HRA.out).mono ?_);rintro e w3 ⟨rfl,hb3⟩
       have hm33:w3.cell? ⟨w.heap.size,3,none⟩=some (.slice (some ⟨ga,oa,none⟩) args.length c3):=(hb3.cell (p:=⟨w.heap.size,3,none⟩) hs2).trans hm3
       have hs3:w.heap.size<w3.heap.size:=by have:=hb3.size;omega
       have hgs3:ga<w3.heap.size:=by have:=hb3.size;omega
       have x0':=(hb3.cell (p:=⟨ga,_,none⟩) hgs2).trans x0
       have x1':=(hb3.cell (p:=⟨ga,_,none⟩) hgs2).trans x1
       have x2':=(hb3.cell (p:=⟨ga,_,none⟩) hgs2).trans x2
       have x3':=(hb3.cell (p:=⟨ga,_,none⟩) hgs2).trans x3
       have x4':=(hb3.cell (p:=⟨ga,_,none⟩) hgs2).trans x4
       have HE3:=hid (HE2.out.below (hb3.mono HE2.out.hB))
       have HB3:=hid ((hb3.block b (zB HB2.out)).trans HB2.out)
       have HXc3:=hid (HXc2.out.below (hb3.mono HE2.out.hB) (Nat.le_refl _))
       have HW3:=hid (HW2.out.trans (hb3.mono HW2.out.size))
       clear hb3)
    | (go_at_call 68;(with_reducible refine(kj B b p vars _ _ _ _ _ _ _ _ _ fs ft n _ HE3.out HB3.out HXc3.out HOc.out HP.out HRC.out).mono ?_);rintro e w4 ⟨rfl,hb4⟩))
   go_ret
   exact⟨zt (by rw[←HRR.out];rfl),HW3.out.trans (hb4.mono HW3.out.size)⟩
 · go_wp2_with (first
    | (go_at_call 68;(with_reducible refine(kj B b p vars _ _ _ _ _ _ _ _ _ fs ft n _ HE2.out HB2.out HXa2.out HOa.out HP.out HRA.out).mono ?_);rintro e w3 ⟨rfl,hb3⟩
       have hm33:w3.cell? ⟨w.heap.size,3,none⟩=some (.slice (some ⟨ga,oa,none⟩) args.length c3):=(hb3.cell (p:=⟨w.heap.size,3,none⟩) hs2).trans hm3
       have hs3:w.heap.size<w3.heap.size:=by have:=hb3.size;omega
       have hgs3:ga<w3.heap.size:=by have:=hb3.size;omega
       have x0':=(hb3.cell (p:=⟨ga,_,none⟩) hgs2).trans x0
       have x1':=(hb3.cell (p:=⟨ga,_,none⟩) hgs2).trans x1
       have x2':=(hb3.cell (p:=⟨ga,_,none⟩) hgs2).trans x2
       have x3':=(hb3.cell (p:=⟨ga,_,none⟩) hgs2).trans x3
       have x4':=(hb3.cell (p:=⟨ga,_,none⟩) hgs2).trans x4
       have HE3:=hid (HE2.out.below (hb3.mono HE2.out.hB))
       have HB3:=hid ((hb3.block b (zB HB2.out)).trans HB2.out)
       have HXc3:=hid (HXc2.out.below (hb3.mono HE2.out.hB) (Nat.le_refl _))
       have HW3:=hid (HW2.out.trans (hb3.mono HW2.out.size))
       clear hb3))
   go_ret
   exact⟨zt (by rw[←HRR.out,if_neg hra0]),HW3.out⟩
set_option maxHeartbeats 1600000 in
include hE hb hl hok hp hfr in
theorem rown_do (h1:args.length=1) (hr:qm p ft 10 ty name args vars frm loop=r):Calls Tryd.prog 55 #[.pointer (some ⟨b,0,none⟩),stV 10 ty name v3 (.slice A4 n4 c4) (.slice A5 n5 c5),v,.int .i64 (frm:Int),.bool loop] w fun e w'=>e=.returned (.int .i64 r)∧Below w.heap.size w w':=by
 have hpos:0<args.length:=by omega
 obtain⟨⟨ka,opa,nna,sa,asa⟩,hea⟩:∃ e,args[0]? =some e:=⟨_,List.getElem?_eq_getElem (by omega)⟩
 have hgda:args.getD 0 vS=.mk ka opa nna sa asa:=by
  rw[List.getD_eq_getElem?_getD,hea];rfl
 have HOa:=hid (qJ hok hea)
 have HR:=hid (show (zq p vars (.mk ka opa nna sa asa)).2=r by rw[←hr,qm];rw[if_neg (by decide),if_neg (by decide),if_neg (by decide),if_neg (by decide),if_neg (by decide),if_neg (by decide),if_pos (by decide),hgda])
 clear h1
 obtain⟨A0,c0,A1,c1,A2,c2,rfl,rfl,rfl⟩:=hE.form
 obtain⟨A3,c3,rfl,_⟩:=hl.form
 obtain⟨ga,oa,vaa,hAa,hga,ya0,ya1,ya2,ya3,ya4,hsla⟩:=hl.cells hea
 subst hAa
 rw[show oa+0 * 5=oa by omega]at ya0 ya1 ya2 ya3 ya4
 obtain⟨Ba,qa,rfl,_⟩:=hsla.form
 have hXa:vB B w (.mk ka opa nna sa asa) (.agg #[.int .i64 ka,.int .i64 opa,.int .i64 nna,.string sa,.slice Ba asa.length qa]):=⟨_,rfl,hl.range hea,hsla⟩
 have hgsa:ga<w.heap.size:=by have:=hE.hB;omega
 have hbl:=zB hb
 have hw1:Below w.heap.size w (w.alloc (qI 10 ty name (.slice (some ⟨ga,oa,none⟩) args.length c3) (.slice A4 n4 c4) (.slice A5 n5 c5))):=(Below.refl _ _).alloc (Nat.le_refl _) _
 have HW1:=hid hw1
 have HE:=hid hE
 have HE1:=hid (hE.below (hw1.mono hE.hB))
 have HED:=hid (hE.below (hw1.drew.mono hE.hB))
 have HB1:=hid ((hw1.block b hbl).trans hb)
 have HBD:=hid ((hw1.drew.block b hbl).trans hb)
 have HXa1:=hid (hXa.below (hw1.mono hE.hB) (Nat.le_refl _))
 have HXaD:=hid (hXa.below (hw1.drew.mono hE.hB) (Nat.le_refl _))
 have HP:=hid hp
 obtain⟨⟨b0,b1,b2,b3,b4,b5,b6⟩,bz⟩:=zP hb
 clear hE hb hl hok hp hr hw1 hea hgda hsla hXa
 go_enter Tryd.func55,Tryd.ntmps55
 obtain⟨⟨t,f⟩,htf⟩:∃ r,zq p vars (.mk ka opa nna sa asa)=r:=⟨_,rfl⟩
 have HTF:=hid htf
 have HRF:=hid (show f=r by rw[←HR.out,htf])
 clear htf
 go_wp2_with (fail)
 go_region_held3 (fun w'=>w'.cell? ⟨b,0,none⟩=some (.slice A0 p.arrays.length c0)∧w'.cell? ⟨b,1,none⟩=some (.slice A1 p.funcs.length c1)∧w'.cell? ⟨w.heap.size,3,none⟩=some (.slice (some ⟨ga,oa,none⟩) args.length c3)∧w'.cell? ⟨ga,oa,none⟩=some (.int .i64 ka)∧w'.cell? ⟨ga,oa+1,none⟩=some (.int .i64 opa)∧w'.cell? ⟨ga,oa+2,none⟩=some (.int .i64 nna)∧w'.cell? ⟨ga,oa+3,none⟩=some (.string sa)∧w'.cell? ⟨ga,oa+4,none⟩=some (.slice Ba asa.length qa))
  (first
    | (go_split_ands;refine⟨?_,?_,?_,?_,?_,?_,?_,?_⟩ <;> (first | (rw[hq5];assumption) | (rw[hm5];simp;done) | (rw[hg5];assumption)))
    | go_keep)
  (first
    | (go_at_call 33
       (refine((rtype_all 100).call (w:=(w.alloc (qI 10 ty name (.slice (some ⟨ga,oa,none⟩) args.length c3) (.slice A4 n4 c4) (.slice A5 n5 c5))).drew) HOa.out HP.out HTF.out HED.out HXaD.out).mono ?_)
       rintro e w2 ⟨rfl,hb2⟩
       have hw2:Below w.heap.size w w2:=HW1.out.trans ((Below.refl _ _).drew.trans (hb2.mono (by show w.heap.size≤(w.alloc _).heap.size;rw[zA];omega)))
       have hq5:∀ x,w2.cell? ⟨b,x,none⟩=w.cell? ⟨b,x,none⟩:=fun x=>hw2.cell (p:=⟨b,x,none⟩) hbl
       have hm5:∀ x,w2.cell? ⟨w.heap.size,x,none⟩=(w.alloc (qI 10 ty name (.slice (some ⟨ga,oa,none⟩) args.length c3) (.slice A4 n4 c4) (.slice A5 n5 c5))).cell? ⟨w.heap.size,x,none⟩:=fun x=>hb2.cell (p:=⟨w.heap.size,x,none⟩) (by show w.heap.size<(w.alloc _).heap.size;rw[zA];omega)
       have hg5:∀ x,w2.cell? ⟨ga,x,none⟩=w.cell? ⟨ga,x,none⟩:=fun x=>hw2.cell (p:=⟨ga,x,none⟩) hgsa
       have HW2:=hid hw2
       clear hb2 hw2))
 go_wp2_with (fail)
 go_ret
 exact⟨zt HRF.out,HW2.out⟩
set_option maxHeartbeats 1600000 in
include hE hb hl hok hp hfr in
theorem rown_break (hr:qm p ft 6 ty name args vars frm loop=r):Calls Tryd.prog 55 #[.pointer (some ⟨b,0,none⟩),stV 6 ty name v3 (.slice A4 n4 c4) (.slice A5 n5 c5),v,.int .i64 (frm:Int),.bool loop] w fun e w'=>e=.returned (.int .i64 r)∧Below w.heap.size w w':=by
 have HR:=hid (show (if loop=true then 0 else 53 :Int)=r by have h:=hr;rw[qm,if_neg (by decide),if_neg (by decide),if_neg (by decide),if_neg (by decide),if_neg (by decide),if_neg (by decide),if_neg (by decide)]at h;exact h)
 obtain⟨A0,c0,A1,c1,A2,c2,rfl,rfl,rfl⟩:=hE.form
 obtain⟨A3,c3,rfl,_⟩:=hl.form
 have hbl:=zB hb
 have hw1:Below w.heap.size w (w.alloc (qI 6 ty name (.slice A3 args.length c3) (.slice A4 n4 c4) (.slice A5 n5 c5))):=(Below.refl _ _).alloc (Nat.le_refl _) _
 have HW1:=hid hw1
 have HE:=hid hE
 have HE1:=hid (hE.below (hw1.mono hE.hB))
 have HED:=hid (hE.below (hw1.drew.mono hE.hB))
 have HB1:=hid ((hw1.block b hbl).trans hb)
 have HBD:=hid ((hw1.drew.block b hbl).trans hb)
 have HP:=hid hp
 obtain⟨⟨b0,b1,b2,b3,b4,b5,b6⟩,bz⟩:=zP hb
 clear hE hb hl hok hp hr hw1
 go_enter Tryd.func55,Tryd.ntmps55
 cases loop
 all_goals
  go_wp2_with (fail)
  go_ret
  exact⟨zt (by rw[←HR.out];rfl),HW1.out⟩
set_option maxHeartbeats 1600000 in
include hE hb hl hok hp hfr in
theorem rown_continue (hr:qm p ft 7 ty name args vars frm loop=r):Calls Tryd.prog 55 #[.pointer (some ⟨b,0,none⟩),stV 7 ty name v3 (.slice A4 n4 c4) (.slice A5 n5 c5),v,.int .i64 (frm:Int),.bool loop] w fun e w'=>e=.returned (.int .i64 r)∧Below w.heap.size w w':=by
 have HR:=hid (show (if loop=true then 0 else 53 :Int)=r by have h:=hr;rw[qm,if_neg (by decide),if_neg (by decide),if_neg (by decide),if_neg (by decide),if_neg (by decide),if_neg (by decide),if_neg (by decide)]at h;exact h)
 obtain⟨A0,c0,A1,c1,A2,c2,rfl,rfl,rfl⟩:=hE.form
 obtain⟨A3,c3,rfl,_⟩:=hl.form
 have hbl:=zB hb
 have hw1:Below w.heap.size w (w.alloc (qI 7 ty name (.slice A3 args.length c3) (.slice A4 n4 c4) (.slice A5 n5 c5))):=(Below.refl _ _).alloc (Nat.le_refl _) _
 have HW1:=hid hw1
 have HE:=hid hE
 have HE1:=hid (hE.below (hw1.mono hE.hB))
 have HED:=hid (hE.below (hw1.drew.mono hE.hB))
 have HB1:=hid ((hw1.block b hbl).trans hb)
 have HBD:=hid ((hw1.drew.block b hbl).trans hb)
 have HP:=hid hp
 obtain⟨⟨b0,b1,b2,b3,b4,b5,b6⟩,bz⟩:=zP hb
 clear hE hb hl hok hp hr hw1
 go_enter Tryd.func55,Tryd.ntmps55
 cases loop
 all_goals
  go_wp2_with (fail)
  go_ret
  exact⟨zt (by rw[←HR.out];rfl),HW1.out⟩
set_option maxHeartbeats 1600000 in
include hE hb hl hok hp hfr in
theorem rown_let (h1:args.length=1) (hr:qm p ft 1 ty name args vars frm loop=r):Calls Tryd.prog 55 #[.pointer (some ⟨b,0,none⟩),stV 1 ty name v3 (.slice A4 n4 c4) (.slice A5 n5 c5),v,.int .i64 (frm:Int),.bool loop] w fun e w'=>e=.returned (.int .i64 r)∧Below w.heap.size w w':=by
 have hpos:0<args.length:=by omega
 obtain⟨⟨ka,opa,nna,sa,asa⟩,hea⟩:∃ e,args[0]? =some e:=⟨_,List.getElem?_eq_getElem (by omega)⟩
 have hgda:args.getD 0 vS=.mk ka opa nna sa asa:=by
  rw[List.getD_eq_getElem?_getD,hea];rfl
 have HOa:=hid (qJ hok hea)
 have HR:=hid (show (if qb p vars (.mk ka opa nna sa asa) ty=0 then (if (zi (vars.drop frm) name).isSome then 50 else 0) else qb p vars (.mk ka opa nna sa asa) ty)=r by have h:=hr;rw[qm,if_pos (by decide),hgda]at h;exact h)
 clear h1
 obtain⟨A0,c0,A1,c1,A2,c2,rfl,rfl,rfl⟩:=hE.form
 obtain⟨A3,c3,rfl,_⟩:=hl.form
 obtain⟨ga,oa,vaa,hAa,hga,ya0,ya1,ya2,ya3,ya4,hsla⟩:=hl.cells hea
 subst hAa
 rw[show oa+0 * 5=oa by omega]at ya0 ya1 ya2 ya3 ya4
 obtain⟨Ba,qa,rfl,_⟩:=hsla.form
 have hXa:vB B w (.mk ka opa nna sa asa) (.agg #[.int .i64 ka,.int .i64 opa,.int .i64 nna,.string sa,.slice Ba asa.length qa]):=⟨_,rfl,hl.range hea,hsla⟩
 have hgsa:ga<w.heap.size:=by have:=hE.hB;omega
 have hbl:=zB hb
 have hw1:Below w.heap.size w (w.alloc (qI 1 ty name (.slice (some ⟨ga,oa,none⟩) args.length c3) (.slice A4 n4 c4) (.slice A5 n5 c5))):=(Below.refl _ _).alloc (Nat.le_refl _) _
 have HW1:=hid hw1
 have HE:=hid hE
 have HE1:=hid (hE.below (hw1.mono hE.hB))
 have HED:=hid (hE.below (hw1.drew.mono hE.hB))
 have HB1:=hid ((hw1.block b hbl).trans hb)
 have HBD:=hid ((hw1.drew.block b hbl).trans hb)
 have HXa1:=hid (hXa.below (hw1.mono hE.hB) (Nat.le_refl _))
 have HXaD:=hid (hXa.below (hw1.drew.mono hE.hB) (Nat.le_refl _))
 have HP:=hid hp
 obtain⟨⟨b0,b1,b2,b3,b4,b5,b6⟩,bz⟩:=zP hb
 clear hE hb hl hok hp hr hw1 hea hgda hsla hXa
 go_enter Tryd.func55,Tryd.ntmps55
 obtain⟨ra,hra⟩:∃ z,qb p vars (.mk ka opa nna sa asa) ty=z:=⟨_,rfl⟩
 have HRA:=hid hra
 obtain⟨t9,ht9⟩:∃ z,(zi (vars.drop frm) name).getD 0=z:=⟨_,rfl⟩
 obtain⟨b9,hb9⟩:∃ z,(zi (vars.drop frm) name).isSome=z:=⟨_,rfl⟩
 have HT9:=hid ht9
 have HB9:=hid hb9
 have HRR:=hid (show (if ra=0 then (if b9=true then 50 else 0) else ra)=r by rw[←hra,←hb9];exact HR.out)
 clear hra ht9 hb9
 have hvs:=HE.out.hv
 go_wp2_with (fail)
 go_region_held3 (fun w'=>w'.cell? ⟨w.heap.size,3,none⟩=some (.slice (some ⟨ga,oa,none⟩) args.length c3)∧w'.cell? ⟨w.heap.size,1,none⟩=some (.int .i64 ty)∧w'.cell? ⟨ga,oa,none⟩=some (.int .i64 ka)∧w'.cell? ⟨ga,oa+1,none⟩=some (.int .i64 opa)∧w'.cell? ⟨ga,oa+2,none⟩=some (.int .i64 nna)∧w'.cell? ⟨ga,oa+3,none⟩=some (.string sa)∧w'.cell? ⟨ga,oa+4,none⟩=some (.slice Ba asa.length qa))
  (first
    | (go_split_ands;refine⟨?_,?_,?_,?_,?_,?_,?_⟩ <;> (first | (rw[hq5];assumption) | (rw[hm5];simp;done) | (rw[hg5];assumption)))
    | go_keep)
  (first
    | (go_at_call 68
       (refine(kj B b p vars _ _ _ _ _ _ _ _ _ fs ft n (w.alloc (qI 1 ty name (.slice (some ⟨ga,oa,none⟩) args.length c3) (.slice A4 n4 c4) (.slice A5 n5 c5))).drew HED.out HBD.out HXaD.out HOa.out HP.out HRA.out).mono ?_)
       rintro e w2 ⟨rfl,hb2⟩
       have hw2:Below w.heap.size w w2:=HW1.out.trans ((Below.refl _ _).drew.trans (hb2.mono (by show w.heap.size≤(w.alloc _).heap.size;rw[zA];omega)))
       have hq5:∀ x,w2.cell? ⟨b,x,none⟩=w.cell? ⟨b,x,none⟩:=fun x=>hw2.cell (p:=⟨b,x,none⟩) hbl
       have hm5:∀ x,w2.cell? ⟨w.heap.size,x,none⟩=(w.alloc (qI 1 ty name (.slice (some ⟨ga,oa,none⟩) args.length c3) (.slice A4 n4 c4) (.slice A5 n5 c5))).cell? ⟨w.heap.size,x,none⟩:=fun x=>hb2.cell (p:=⟨w.heap.size,x,none⟩) (by show w.heap.size<(w.alloc _).heap.size;rw[zA];omega)
       have hm2:w2.cell? ⟨w.heap.size,2,none⟩=some (.string name):=by rw[hm5];simp
       have hs2:w.heap.size<w2.heap.size:=by have:=hb2.size;simp at this;omega
       have HWD:=hid (show Below w.heap.size ((w.alloc (qI 1 ty name (.slice (some ⟨ga,oa,none⟩) args.length c3) (.slice A4 n4 c4) (.slice A5 n5 c5))).drew) w2 from hb2.mono (by show w.heap.size≤(w.alloc _).heap.size;rw[zA];omega))
       have hg5:∀ x,w2.cell? ⟨ga,x,none⟩=w.cell? ⟨ga,x,none⟩:=fun x=>hw2.cell (p:=⟨ga,x,none⟩) hgsa
       have HW2:=hid hw2
       clear hb2 hw2))
 have hvs2:=HED.out.hv.below (HWD.out.mono HE.out.hB) (Nat.le_refl _)
 have HVD:=hid (fun n=>(hvs2.dropS frm hfr).below (show Below B w2 (w2.drewN n) from(Below.refl _ _).trans ⟨rfl,rfl,rfl,Nat.le_refl _,fun _ _=>rfl⟩) (Nat.le_refl _))
 have hB2:B≤w2.heap.size:=Nat.le_trans HE.out.hB HW2.out.size
 clear hvs2 hvs
 by_cases hra0:ra=0
 · subst hra0
   cases b9
   all_goals
    go_wp2_with (fail)
    go_quiet ((go_at_call 28;exact(qd B (vars.drop frm) name t9 _ HT9.out HB9.out _ _ (by exact hB2) (HVD.out _)).mono fun e w' h=>⟨h.1,_,h.2.symm⟩))
    go_wp2_with (fail)
    all_goals go_ret
    all_goals exact⟨zt (by rw[←HRR.out];rfl),bdN HW2.out _⟩
 · cases b9
   all_goals
    go_wp2_with (fail)
    go_quiet ((go_at_call 28;exact(qd B (vars.drop frm) name t9 _ HT9.out HB9.out _ _ (by exact hB2) (HVD.out _)).mono fun e w' h=>⟨h.1,_,h.2.symm⟩))
    have nra:(ra == 0)=false:=by simp[hra0]
    go_wp2_with (fail)
    all_goals go_ret
    all_goals exact⟨zt (by rw[←HRR.out,if_neg hra0]),bdN HW2.out _⟩
theorem jk (k:Int) (ic:Bool) (hf:zX k ty name args.length n4 n5 ic=true) (hr:qm p ft k ty name args vars frm loop=r) (hE:REnv B p vars v0 v1 v w) (hb:w.heap[b]? =some (rckO v0 v1 fs ft v2 vb n)) (hl:kf B w v3 args) (hok:zo args 100=true) (hp:Few p) (hfr:frm≤vars.length):
 Calls Tryd.prog 55 #[.pointer (some ⟨b,0,none⟩),stV k ty name v3 (.slice A4 n4 c4) (.slice A5 n5 c5),v,.int .i64 (frm:Int),.bool loop] w fun e w'=>e=.returned (.int .i64 r)∧Below w.heap.size w w':=by
 rcases formS_ten hf with rfl | rfl | rfl | rfl | rfl | rfl | rfl | rfl | rfl | rfl
 · exact rown_let B b p vars ty name args frm loop A4 n4 c4 A5 n5 c5 r v3 v0 v1 v v2 vb fs ft n w hE hb hl hok hp hfr (by simp[zX]at hf;exact hf.1.1.2) hr
 · cases hv:zi vars name with
   | none=>exact rown_set_no B b p vars ty name args frm loop A4 n4 c4 A5 n5 c5 r v3 v0 v1 v v2 vb fs ft n w hE hb hl hok hp hfr hv hr
   | some t=>exact rown_set B b p vars ty name args frm loop A4 n4 c4 A5 n5 c5 r v3 v0 v1 v v2 vb fs ft n w hE hb hl hok hp hfr t hv (by simp[zX]at hf;exact hf.1.1.2) hr
 · cases hv:qg p.arrays name with
   | none=>exact rown_put_no B b p vars ty name args frm loop A4 n4 c4 A5 n5 c5 r v3 v0 v1 v v2 vb fs ft n w hE hb hl hok hp hfr hv hr
   | some t=>exact rown_put B b p vars ty name args frm loop A4 n4 c4 A5 n5 c5 r v3 v0 v1 v v2 vb fs ft n w hE hb hl hok hp hfr t hv (by simp[zX]at hf;exact hf.1.1.2) hr
 · exact rown_if B b p vars ty name args frm loop A4 n4 c4 A5 n5 c5 r v3 v0 v1 v v2 vb fs ft n w hE hb hl hok hp hfr (by simp[zX]at hf;exact hf.2) hr
 · exact rown_while B b p vars ty name args frm loop A4 n4 c4 A5 n5 c5 r v3 v0 v1 v v2 vb fs ft n w hE hb hl hok hp hfr (by simp[zX]at hf;exact hf.1.2) hr
 · exact rown_break B b p vars ty name args frm loop A4 n4 c4 A5 n5 c5 r v3 v0 v1 v v2 vb fs ft n w hE hb hl hok hp hfr hr
 · exact rown_continue B b p vars ty name args frm loop A4 n4 c4 A5 n5 c5 r v3 v0 v1 v v2 vb fs ft n w hE hb hl hok hp hfr hr
 · exact rown_return B b p vars ty name args frm loop A4 n4 c4 A5 n5 c5 r v3 v0 v1 v v2 vb fs ft n w hE hb hl hok hp hfr (by simp[zX]at hf;exact hf.1.1.2) hr
 · exact rown_print B b p vars ty name args frm loop A4 n4 c4 A5 n5 c5 r v3 v0 v1 v v2 vb fs ft n w hE hb hl hok hp hfr (by simp[zX]at hf;exact hf.1.1.2) hr
 · exact rown_do B b p vars ty name args frm loop A4 n4 c4 A5 n5 c5 r v3 v0 v1 v v2 vb fs ft n w hE hb hl hok hp hfr (by simp[zX]at hf;omega) hr
end
end Go.Proofs.YtndgkfkieogplaaDoor
