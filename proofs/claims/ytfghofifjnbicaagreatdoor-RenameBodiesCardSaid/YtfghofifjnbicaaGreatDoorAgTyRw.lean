import Derived.Test.YtfghofifjnbicaaGreatDoorAgParLex
import Derived.Test.YtfghofifjnbicaaGreatDoorAgTyLs
import Derived.Test.YtfghofifjnbicaaGreatDoorAgTokRefA
set_option linter.unusedSimpArgs false
set_option linter.unusedVariables false
set_option maxRecDepth 100000
/- The contract of the document's want: an expression is to be of a type. -/
namespace Go.Proofs.YtfghofifjnbicaaGreatDoor
open Lib (hid)
open Go.RowKit
abbrev rckO (v0 v1:Value) (s:ByteArray) (t:Int) (v2 v3:Value) (n:Int):Obj:=.cells #[v0,v1,.string s,.int .i64 t,v2,v3,.int .i64 n] 83
theorem zN {w:World} {g:Nat} {c0 c1 c2 c3 c4 c5 c6:Value} {T:TypeId} (h:w.heap[g]? =some (.cells #[c0,c1,c2,c3,c4,c5,c6] T (0,0))):(w.cell? ⟨g,0,none⟩=some c0∧w.cell? ⟨g,1,none⟩=some c1∧w.cell? ⟨g,2,none⟩=some c2∧w.cell? ⟨g,3,none⟩=some c3∧w.cell? ⟨g,4,none⟩=some c4∧w.cell? ⟨g,5,none⟩=some c5∧w.cell? ⟨g,6,none⟩=some c6)∧∀ o,w.frozen? ⟨g,o,none⟩=false:=
 ⟨⟨(Lib.cell_of_heap h 0).trans rfl,(Lib.cell_of_heap h 1).trans rfl,(Lib.cell_of_heap h 2).trans rfl,(Lib.cell_of_heap h 3).trans rfl,(Lib.cell_of_heap h 4).trans rfl,(Lib.cell_of_heap h 5).trans rfl,(Lib.cell_of_heap h 6).trans rfl⟩,fun o=>by simp[World.frozen?,h]⟩
set_option maxHeartbeats 1600000 in
theorem jo (B b:Nat) (p:Pr) (vars:List Pa) (e:Ex) (t r:Int) (x v0 v1 v v2 v3:Value) (fs:ByteArray) (ft n:Int) (w:World) (hE:REnv B p vars v0 v1 v w) (hb:w.heap[b]? =some (rckO v0 v1 fs ft v2 v3 n)) (hx:uC B w e x) (hok:yv e 100=true) (hp:uh p) (hr:q7 p vars e t=r):
 Calls Tryz.prog 82 #[.pointer (some ⟨b,0,none⟩),v,x,.int .i64 t] w fun e w'=>e=.returned (.int .i64 r)∧Below w.heap.size w w':=by
 obtain⟨A0,c0,A1,c1,A2,c2,rfl,rfl,rfl⟩:=hE.form;obtain⟨k',op',n',s',as'⟩:=e;obtain⟨va,rfl,hrg,hsl⟩:=hx;dsimp only[Ex.kind,Ex.op,Ex.n,Ex.name,Ex.args]at hsl hrg ⊢;obtain⟨A5,c5,rfl,_⟩:=hsl.form;have hbl:=zB hb;obtain⟨⟨b0,b1,b2,b3,b4,b5,b6⟩,bz⟩:=zN hb;obtain⟨⟨ty,f⟩,htf⟩:∃ r,qI p vars (.mk k' op' n' s' as')=r:=⟨_,rfl⟩
 have hwe:(if f=0 then (if ty=t then 0 else 51) else f)=r:=by rw[←hr];unfold q7;rw[htf]
 have hw1:Below w.heap.size w (w.alloc (jY k' op' n' s' A5 as'.length c5)).drew:=((Below.refl _ _).alloc (Nat.le_refl _) _).drew;have HW1:=hid hw1;have HED:=hid (hE.below (hw1.mono hE.hB));have HXD:=hid (show uC B (w.alloc (jY k' op' n' s' A5 as'.length c5)).drew (.mk k' op' n' s' as') (.agg #[.int .i64 k',.int .i64 op',.int .i64 n',.string s',.slice A5 as'.length c5]) from⟨_,rfl,hrg,hsl.below (hw1.mono hE.hB) (Nat.le_refl _)⟩);have HTF:=hid htf;have HWE:=hid hwe;have HOK:=hid hok;have HP:=hid hp;have hrl:f=0∧ty=t∨f=0∧ty≠t∨f≠0:=by omega
 clear hE hb hsl hok hp hr htf hwe hw1 hrg;rcases hrl with⟨h1,h2⟩ | ⟨h1,h2⟩ | h1
 all_goals
  first
   | (subst h1;subst h2)
   | (subst h1)
   | skip
  go_enter Tryz.func82,Tryz.ntmps82;go_wp2_with (fail)
  go_region_held3 (fun w'=>w'.cell? ⟨b,0,none⟩=some (.slice A0 p.arrays.length c0)∧w'.cell? ⟨b,1,none⟩=some (.slice A1 p.funcs.length c1)∧w'.cell? ⟨w.heap.size,0,none⟩=some (.int .i64 k')∧w'.cell? ⟨w.heap.size,1,none⟩=some (.int .i64 op')∧w'.cell? ⟨w.heap.size,2,none⟩=some (.int .i64 n')∧w'.cell? ⟨w.heap.size,3,none⟩=some (.string s')∧w'.cell? ⟨w.heap.size,4,none⟩=some (.slice A5 as'.length c5))
   (first
     | (go_split_ands;refine⟨?_,?_,?_,?_,?_,?_,?_⟩ <;> (first | (rw[hq5];assumption) | (rw[hm5];simp;done)))
     | go_keep)
   (first
     | (go_at_call 83
        (refine((rtype_all 100).call (w:=(w.alloc (jY k' op' n' s' A5 as'.length c5)).drew) HOK.out HP.out HTF.out HED.out HXD.out).mono ?_)
        rintro e w2 ⟨rfl,hb2⟩;have hb2':Below w.heap.size w w2:=HW1.out.trans (hb2.mono (by show w.heap.size≤(w.alloc _).heap.size;rw[zA];omega));have hq5:∀ o,w2.cell? ⟨b,o,none⟩=w.cell? ⟨b,o,none⟩:=fun o=>hb2'.cell (p:=⟨b,o,none⟩) hbl
        have hm5:∀ o,w2.cell? ⟨w.heap.size,o,none⟩=(w.alloc (jY k' op' n' s' A5 as'.length c5)).cell? ⟨w.heap.size,o,none⟩:=fun o=>hb2.cell (p:=⟨w.heap.size,o,none⟩) (by show w.heap.size<(w.alloc _).heap.size;rw[zA];omega)
        have HW2:=hid hb2'
        clear hb2 hb2'))
  go_wp2_with (fail)
  all_goals go_ret
  all_goals refine⟨zk ?_,HW2.out⟩
  all_goals
   have hwr:=HWE.out
   simp_all
theorem rdL_drop {α:Type} {size:Nat} {F:α→Nat→Nat→Prop}:∀ (k:Nat) (l:List α) (g o:Nat),xp size F l g o→xp size F (l.drop k) g (o+k * size)
 | 0,l,g,o,h=>by simpa using h
 | k+1,[],g,o,h=>trivial
 | k+1,a :: r,g,o,h=>by
   have:=rdL_drop k r g (o+size) h.2;rw[List.drop_succ_cons,show o+(k+1) * size=o+size+k * size by rw[Nat.add_mul,Nat.one_mul];omega];exact this
theorem addr_add (g o k:Nat):(⟨g,o,none⟩:Addr).add k=⟨g,o+k,none⟩:=by unfold Addr.add;split <;> simp_all
theorem SlP.dropS {B:Nat} {w:World} {A:Option Addr} {c:Nat} {l:List Pa} (h:SlP B w (.slice A l.length c) l) (k:Nat) (hk:k≤l.length):SlP B w (.slice (if c=k then A else Option.map (fun x=>x.add (k * 2)) A) (l.length-k) (c-k)) (l.drop k):=by
 have hc:=h.2 A l.length c rfl;refine⟨⟨_,c-k,by rw[List.length_drop],?_,fun hp=>?_⟩,fun A' n' c' hv=>by injection hv with _ h1 h2;omega⟩
 · obtain⟨_,_,_,hn⟩:=h.form
   rw[List.length_drop];omega
 · rw[List.length_drop]at hp
   obtain⟨g,o,rfl,hr⟩:=xH.elem h.1 rfl (by omega);refine⟨g,o+k * 2,?_,rdL_drop k l g o hr⟩;rw[if_neg (by omega),Option.map_some,addr_add]
theorem rdL_take {α:Type} {size:Nat} {F:α→Nat→Nat→Prop}:∀ (k:Nat) (l:List α) (g o:Nat),xp size F l g o→xp size F (l.take k) g o
 | 0,l,g,o,h=>trivial
 | k+1,[],g,o,h=>trivial
 | k+1,a :: r,g,o,h=>⟨h.1,rdL_take k r g (o+size) h.2⟩
set_option linter.unusedSectionVars false
section
variable (B b:Nat) (p:Pr) (vars:List Pa) (ty:Int) (name:ByteArray) (args:List Ex) (frm:Nat) (loop:Bool) (A4:Option Addr) (n4 c4:Nat) (A5:Option Addr) (n5 c5:Nat) (r:Int) (v3 v0 v1 v v2 vb:Value) (fs:ByteArray) (ft n:Int) (w:World)
variable (hE:REnv B p vars v0 v1 v w) (hb:w.heap[b]? =some (rckO v0 v1 fs ft v2 vb n)) (hl:qy B w v3 args) (hok:zr args 100=true) (hp:uh p) (hfr:frm≤vars.length)
set_option maxHeartbeats 1600000 in
include hE hb hl hok hp hfr in
theorem rown_if (h1:args.length=1) (hr:qh p ft 4 ty name args vars frm loop=r):Calls Tryz.prog 65 #[.pointer (some ⟨b,0,none⟩),stV 4 ty name v3 (.slice A4 n4 c4) (.slice A5 n5 c5),v,.int .i64 (frm:Int),.bool loop] w fun e w'=>e=.returned (.int .i64 r)∧Below w.heap.size w w':=by
 have hpos:0<args.length:=by omega
 obtain⟨⟨ka,opa,nna,sa,asa⟩,hea⟩:∃ e,args[0]? =some e:=⟨_,List.getElem?_eq_getElem (by omega)⟩
 have hgda:args.getD 0 xO=.mk ka opa nna sa asa:=by
  rw[List.getD_eq_getElem?_getD,hea];rfl
 have HOa:=hid (qX hok hea);have HR:=hid (show q7 p vars (.mk ka opa nna sa asa) 2=r by rw[←hr,qh];rw[if_neg (by decide),if_neg (by decide),if_neg (by decide),if_pos (by decide),hgda]);clear h1;obtain⟨A0,c0,A1,c1,A2,c2,rfl,rfl,rfl⟩:=hE.form;obtain⟨A3,c3,rfl,_⟩:=hl.form;obtain⟨ga,oa,vaa,hAa,hga,ya0,ya1,ya2,ya3,ya4,hsla⟩:=hl.cells hea;subst hAa;rw[show oa+0 * 5=oa by omega]at ya0 ya1 ya2 ya3 ya4;obtain⟨Ba,qa,rfl,_⟩:=hsla.form;have hXa:uC B w (.mk ka opa nna sa asa) (.agg #[.int .i64 ka,.int .i64 opa,.int .i64 nna,.string sa,.slice Ba asa.length qa]):=⟨_,rfl,hl.range hea,hsla⟩
 have hgsa:ga<w.heap.size:=by have:=hE.hB;omega
 have hbl:=zB hb;have hw1:Below w.heap.size w (w.alloc (qD 4 ty name (.slice (some ⟨ga,oa,none⟩) args.length c3) (.slice A4 n4 c4) (.slice A5 n5 c5))):=(Below.refl _ _).alloc (Nat.le_refl _) _;have HW1:=hid hw1;have HE:=hid hE;have HE1:=hid (hE.below (hw1.mono hE.hB));have HED:=hid (hE.below (hw1.drew.mono hE.hB));have HB1:=hid ((hw1.block b hbl).trans hb);have HBD:=hid ((hw1.drew.block b hbl).trans hb);have HXa1:=hid (hXa.below (hw1.mono hE.hB) (Nat.le_refl _));have HXaD:=hid (hXa.below (hw1.drew.mono hE.hB) (Nat.le_refl _));have HP:=hid hp;obtain⟨⟨b0,b1,b2,b3,b4,b5,b6⟩,bz⟩:=zN hb;clear hE hb hl hok hp hr hw1 hea hgda hsla hXa;go_enter Tryz.func65,Tryz.ntmps65;go_wp2_with (go_at_call 82;(with_reducible refine(jo B b p vars _ _ _ _ _ _ _ _ _ fs ft n _ HE1.out HB1.out HXa1.out HOa.out HP.out HR.out).mono ?_);rintro e w2 ⟨rfl,hb2⟩);go_ret;exact⟨rfl,HW1.out.trans (hb2.mono (by rw[zA];omega))⟩
set_option maxHeartbeats 1600000 in
include hE hb hl hok hp hfr in
theorem rown_while (h1:args.length=1) (hr:qh p ft 5 ty name args vars frm loop=r):Calls Tryz.prog 65 #[.pointer (some ⟨b,0,none⟩),stV 5 ty name v3 (.slice A4 n4 c4) (.slice A5 n5 c5),v,.int .i64 (frm:Int),.bool loop] w fun e w'=>e=.returned (.int .i64 r)∧Below w.heap.size w w':=by
 have hpos:0<args.length:=by omega
 obtain⟨⟨ka,opa,nna,sa,asa⟩,hea⟩:∃ e,args[0]? =some e:=⟨_,List.getElem?_eq_getElem (by omega)⟩
 have hgda:args.getD 0 xO=.mk ka opa nna sa asa:=by
  rw[List.getD_eq_getElem?_getD,hea];rfl
 have HOa:=hid (qX hok hea);have HR:=hid (show q7 p vars (.mk ka opa nna sa asa) 2=r by rw[←hr,qh];rw[if_neg (by decide),if_neg (by decide),if_neg (by decide),if_pos (by decide),hgda]);clear h1;obtain⟨A0,c0,A1,c1,A2,c2,rfl,rfl,rfl⟩:=hE.form;obtain⟨A3,c3,rfl,_⟩:=hl.form;obtain⟨ga,oa,vaa,hAa,hga,ya0,ya1,ya2,ya3,ya4,hsla⟩:=hl.cells hea;subst hAa;rw[show oa+0 * 5=oa by omega]at ya0 ya1 ya2 ya3 ya4;obtain⟨Ba,qa,rfl,_⟩:=hsla.form;have hXa:uC B w (.mk ka opa nna sa asa) (.agg #[.int .i64 ka,.int .i64 opa,.int .i64 nna,.string sa,.slice Ba asa.length qa]):=⟨_,rfl,hl.range hea,hsla⟩
 have hgsa:ga<w.heap.size:=by have:=hE.hB;omega
 have hbl:=zB hb;have hw1:Below w.heap.size w (w.alloc (qD 5 ty name (.slice (some ⟨ga,oa,none⟩) args.length c3) (.slice A4 n4 c4) (.slice A5 n5 c5))):=(Below.refl _ _).alloc (Nat.le_refl _) _;have HW1:=hid hw1;have HE:=hid hE;have HE1:=hid (hE.below (hw1.mono hE.hB));have HED:=hid (hE.below (hw1.drew.mono hE.hB));have HB1:=hid ((hw1.block b hbl).trans hb);have HBD:=hid ((hw1.drew.block b hbl).trans hb);have HXa1:=hid (hXa.below (hw1.mono hE.hB) (Nat.le_refl _));have HXaD:=hid (hXa.below (hw1.drew.mono hE.hB) (Nat.le_refl _));have HP:=hid hp;obtain⟨⟨b0,b1,b2,b3,b4,b5,b6⟩,bz⟩:=zN hb;clear hE hb hl hok hp hr hw1 hea hgda hsla hXa;go_enter Tryz.func65,Tryz.ntmps65;go_wp2_with (go_at_call 82;(with_reducible refine(jo B b p vars _ _ _ _ _ _ _ _ _ fs ft n _ HE1.out HB1.out HXa1.out HOa.out HP.out HR.out).mono ?_);rintro e w2 ⟨rfl,hb2⟩);go_ret;exact⟨rfl,HW1.out.trans (hb2.mono (by rw[zA];omega))⟩
set_option maxHeartbeats 1600000 in
include hE hb hl hok hp hfr in
theorem rown_print (h1:args.length=1) (hr:qh p ft 9 ty name args vars frm loop=r):Calls Tryz.prog 65 #[.pointer (some ⟨b,0,none⟩),stV 9 ty name v3 (.slice A4 n4 c4) (.slice A5 n5 c5),v,.int .i64 (frm:Int),.bool loop] w fun e w'=>e=.returned (.int .i64 r)∧Below w.heap.size w w':=by
 have hpos:0<args.length:=by omega
 obtain⟨⟨ka,opa,nna,sa,asa⟩,hea⟩:∃ e,args[0]? =some e:=⟨_,List.getElem?_eq_getElem (by omega)⟩
 have hgda:args.getD 0 xO=.mk ka opa nna sa asa:=by
  rw[List.getD_eq_getElem?_getD,hea];rfl
 have HOa:=hid (qX hok hea);have HR:=hid (show q7 p vars (.mk ka opa nna sa asa) 1=r by rw[←hr,qh];rw[if_neg (by decide),if_neg (by decide),if_neg (by decide),if_neg (by decide),if_neg (by decide),if_pos (by decide),hgda]);clear h1;obtain⟨A0,c0,A1,c1,A2,c2,rfl,rfl,rfl⟩:=hE.form;obtain⟨A3,c3,rfl,_⟩:=hl.form;obtain⟨ga,oa,vaa,hAa,hga,ya0,ya1,ya2,ya3,ya4,hsla⟩:=hl.cells hea;subst hAa;rw[show oa+0 * 5=oa by omega]at ya0 ya1 ya2 ya3 ya4;obtain⟨Ba,qa,rfl,_⟩:=hsla.form;have hXa:uC B w (.mk ka opa nna sa asa) (.agg #[.int .i64 ka,.int .i64 opa,.int .i64 nna,.string sa,.slice Ba asa.length qa]):=⟨_,rfl,hl.range hea,hsla⟩
 have hgsa:ga<w.heap.size:=by have:=hE.hB;omega
 have hbl:=zB hb;have hw1:Below w.heap.size w (w.alloc (qD 9 ty name (.slice (some ⟨ga,oa,none⟩) args.length c3) (.slice A4 n4 c4) (.slice A5 n5 c5))):=(Below.refl _ _).alloc (Nat.le_refl _) _;have HW1:=hid hw1;have HE:=hid hE;have HE1:=hid (hE.below (hw1.mono hE.hB));have HED:=hid (hE.below (hw1.drew.mono hE.hB));have HB1:=hid ((hw1.block b hbl).trans hb);have HBD:=hid ((hw1.drew.block b hbl).trans hb);have HXa1:=hid (hXa.below (hw1.mono hE.hB) (Nat.le_refl _));have HXaD:=hid (hXa.below (hw1.drew.mono hE.hB) (Nat.le_refl _));have HP:=hid hp;obtain⟨⟨b0,b1,b2,b3,b4,b5,b6⟩,bz⟩:=zN hb;clear hE hb hl hok hp hr hw1 hea hgda hsla hXa;go_enter Tryz.func65,Tryz.ntmps65;go_wp2_with (go_at_call 82;(with_reducible refine(jo B b p vars _ _ _ _ _ _ _ _ _ fs ft n _ HE1.out HB1.out HXa1.out HOa.out HP.out HR.out).mono ?_);rintro e w2 ⟨rfl,hb2⟩);go_ret;exact⟨rfl,HW1.out.trans (hb2.mono (by rw[zA];omega))⟩
set_option maxHeartbeats 1600000 in
include hE hb hl hok hp hfr in
theorem rown_return (h1:args.length=1) (hr:qh p ft 8 ty name args vars frm loop=r):Calls Tryz.prog 65 #[.pointer (some ⟨b,0,none⟩),stV 8 ty name v3 (.slice A4 n4 c4) (.slice A5 n5 c5),v,.int .i64 (frm:Int),.bool loop] w fun e w'=>e=.returned (.int .i64 r)∧Below w.heap.size w w':=by
 have hpos:0<args.length:=by omega
 obtain⟨⟨ka,opa,nna,sa,asa⟩,hea⟩:∃ e,args[0]? =some e:=⟨_,List.getElem?_eq_getElem (by omega)⟩
 have hgda:args.getD 0 xO=.mk ka opa nna sa asa:=by
  rw[List.getD_eq_getElem?_getD,hea];rfl
 have HOa:=hid (qX hok hea);have HR:=hid (show q7 p vars (.mk ka opa nna sa asa) ft=r by rw[←hr,qh];rw[if_neg (by decide),if_neg (by decide),if_neg (by decide),if_neg (by decide),if_pos (by decide),hgda]);clear h1;obtain⟨A0,c0,A1,c1,A2,c2,rfl,rfl,rfl⟩:=hE.form;obtain⟨A3,c3,rfl,_⟩:=hl.form;obtain⟨ga,oa,vaa,hAa,hga,ya0,ya1,ya2,ya3,ya4,hsla⟩:=hl.cells hea;subst hAa;rw[show oa+0 * 5=oa by omega]at ya0 ya1 ya2 ya3 ya4;obtain⟨Ba,qa,rfl,_⟩:=hsla.form;have hXa:uC B w (.mk ka opa nna sa asa) (.agg #[.int .i64 ka,.int .i64 opa,.int .i64 nna,.string sa,.slice Ba asa.length qa]):=⟨_,rfl,hl.range hea,hsla⟩
 have hgsa:ga<w.heap.size:=by have:=hE.hB;omega
 have hbl:=zB hb;have hw1:Below w.heap.size w (w.alloc (qD 8 ty name (.slice (some ⟨ga,oa,none⟩) args.length c3) (.slice A4 n4 c4) (.slice A5 n5 c5))):=(Below.refl _ _).alloc (Nat.le_refl _) _;have HW1:=hid hw1;have HE:=hid hE;have HE1:=hid (hE.below (hw1.mono hE.hB));have HED:=hid (hE.below (hw1.drew.mono hE.hB));have HB1:=hid ((hw1.block b hbl).trans hb);have HBD:=hid ((hw1.drew.block b hbl).trans hb);have HXa1:=hid (hXa.below (hw1.mono hE.hB) (Nat.le_refl _));have HXaD:=hid (hXa.below (hw1.drew.mono hE.hB) (Nat.le_refl _));have HP:=hid hp;obtain⟨⟨b0,b1,b2,b3,b4,b5,b6⟩,bz⟩:=zN hb;clear hE hb hl hok hp hr hw1 hea hgda hsla hXa;go_enter Tryz.func65,Tryz.ntmps65;go_wp2_with (fail)
 go_region_held3 (fun w'=>w'.cell? ⟨b,3,none⟩=some (.int .i64 ft)∧w'.cell? ⟨w.heap.size,3,none⟩=some (.slice (some ⟨ga,oa,none⟩) args.length c3)∧w'.cell? ⟨ga,oa,none⟩=some (.int .i64 ka)∧w'.cell? ⟨ga,oa+1,none⟩=some (.int .i64 opa)∧w'.cell? ⟨ga,oa+2,none⟩=some (.int .i64 nna)∧w'.cell? ⟨ga,oa+3,none⟩=some (.string sa)∧w'.cell? ⟨ga,oa+4,none⟩=some (.slice Ba asa.length qa))
  (first
    | (go_split_ands;refine⟨?_,?_,?_,?_,?_,?_,?_⟩ <;> (first | (rw[hq5];assumption) | (rw[hm5];simp;done) | (rw[hg5];assumption)))
    | go_keep)
  (first
    | (go_at_call 82
       (refine(jo B b p vars _ _ _ _ _ _ _ _ _ fs ft n (w.alloc (qD 8 ty name (.slice (some ⟨ga,oa,none⟩) args.length c3) (.slice A4 n4 c4) (.slice A5 n5 c5))).drew HED.out HBD.out HXaD.out HOa.out HP.out HR.out).mono ?_)
       rintro e w2 ⟨rfl,hb2⟩;have hw2:Below w.heap.size w w2:=HW1.out.trans ((Below.refl _ _).drew.trans (hb2.mono (by show w.heap.size≤(w.alloc _).heap.size;rw[zA];omega)));have hq5:∀ x,w2.cell? ⟨b,x,none⟩=w.cell? ⟨b,x,none⟩:=fun x=>hw2.cell (p:=⟨b,x,none⟩) hbl
       have hm5:∀ x,w2.cell? ⟨w.heap.size,x,none⟩=(w.alloc (qD 8 ty name (.slice (some ⟨ga,oa,none⟩) args.length c3) (.slice A4 n4 c4) (.slice A5 n5 c5))).cell? ⟨w.heap.size,x,none⟩:=fun x=>hb2.cell (p:=⟨w.heap.size,x,none⟩) (by show w.heap.size<(w.alloc _).heap.size;rw[zA];omega)
       have hg5:∀ x,w2.cell? ⟨ga,x,none⟩=w.cell? ⟨ga,x,none⟩:=fun x=>hw2.cell (p:=⟨ga,x,none⟩) hgsa
       have HW2:=hid hw2
       clear hb2 hw2))
 go_wp2_with (fail);go_ret;exact⟨rfl,HW2.out⟩
set_option maxHeartbeats 1600000 in
include hE hb hl hok hp hfr in
theorem rown_set_no (hv:zW vars name=none) (hr:qh p ft 2 ty name args vars frm loop=r):Calls Tryz.prog 65 #[.pointer (some ⟨b,0,none⟩),stV 2 ty name v3 (.slice A4 n4 c4) (.slice A5 n5 c5),v,.int .i64 (frm:Int),.bool loop] w fun e w'=>e=.returned (.int .i64 r)∧Below w.heap.size w w':=by
 have HR:=hid (show (50 :Int)=r by rw[←hr,qh];rw[if_neg (by decide),if_pos (by decide),hv]);have HT:=hid (show (zW vars name).getD 0=0 by rw[hv];rfl);have HVB:=hid (show (zW vars name).isSome=false by rw[hv];rfl);clear hv;obtain⟨A0,c0,A1,c1,A2,c2,rfl,rfl,rfl⟩:=hE.form;obtain⟨A3,c3,rfl,_⟩:=hl.form;have hbl:=zB hb;have hw1:Below w.heap.size w (w.alloc (qD 2 ty name (.slice A3 args.length c3) (.slice A4 n4 c4) (.slice A5 n5 c5))):=(Below.refl _ _).alloc (Nat.le_refl _) _;have HW1:=hid hw1;have HE:=hid hE;have HE1:=hid (hE.below (hw1.mono hE.hB));have HED:=hid (hE.below (hw1.drew.mono hE.hB));have HB1:=hid ((hw1.block b hbl).trans hb);have HBD:=hid ((hw1.drew.block b hbl).trans hb);have HP:=hid hp;obtain⟨⟨b0,b1,b2,b3,b4,b5,b6⟩,bz⟩:=zN hb;clear hE hb hl hok hp hr hw1;go_enter Tryz.func65,Tryz.ntmps65;go_wp2_with (go_at_call 30;(with_reducible refine(jO B vars name _ _ HT.out HVB.out _ _ HE1.out.hB HE1.out.hv).mono ?_);rintro e w9 ⟨rfl,rfl⟩);go_ret;exact⟨zk HR.out,HW1.out⟩
set_option maxHeartbeats 1600000 in
include hE hb hl hok hp hfr in
theorem rown_set (t:Int) (hv:zW vars name=some t) (h1:args.length=1) (hr:qh p ft 2 ty name args vars frm loop=r):Calls Tryz.prog 65 #[.pointer (some ⟨b,0,none⟩),stV 2 ty name v3 (.slice A4 n4 c4) (.slice A5 n5 c5),v,.int .i64 (frm:Int),.bool loop] w fun e w'=>e=.returned (.int .i64 r)∧Below w.heap.size w w':=by
 have hpos:0<args.length:=by omega
 obtain⟨⟨ka,opa,nna,sa,asa⟩,hea⟩:∃ e,args[0]? =some e:=⟨_,List.getElem?_eq_getElem (by omega)⟩
 have hgda:args.getD 0 xO=.mk ka opa nna sa asa:=by
  rw[List.getD_eq_getElem?_getD,hea];rfl
 have HOa:=hid (qX hok hea);have HR:=hid (show q7 p vars (.mk ka opa nna sa asa) t=r by rw[←hr,qh];rw[if_neg (by decide),if_pos (by decide),hv,hgda]);have HT:=hid (show (zW vars name).getD 0=t by rw[hv];rfl);have HVB:=hid (show (zW vars name).isSome=true by rw[hv];rfl);clear hv h1;obtain⟨A0,c0,A1,c1,A2,c2,rfl,rfl,rfl⟩:=hE.form;obtain⟨A3,c3,rfl,_⟩:=hl.form;obtain⟨ga,oa,vaa,hAa,hga,ya0,ya1,ya2,ya3,ya4,hsla⟩:=hl.cells hea;subst hAa;rw[show oa+0 * 5=oa by omega]at ya0 ya1 ya2 ya3 ya4;obtain⟨Ba,qa,rfl,_⟩:=hsla.form;have hXa:uC B w (.mk ka opa nna sa asa) (.agg #[.int .i64 ka,.int .i64 opa,.int .i64 nna,.string sa,.slice Ba asa.length qa]):=⟨_,rfl,hl.range hea,hsla⟩
 have hgsa:ga<w.heap.size:=by have:=hE.hB;omega
 have hbl:=zB hb;have hw1:Below w.heap.size w (w.alloc (qD 2 ty name (.slice (some ⟨ga,oa,none⟩) args.length c3) (.slice A4 n4 c4) (.slice A5 n5 c5))):=(Below.refl _ _).alloc (Nat.le_refl _) _;have HW1:=hid hw1;have HE:=hid hE;have HE1:=hid (hE.below (hw1.mono hE.hB));have HED:=hid (hE.below (hw1.drew.mono hE.hB));have HB1:=hid ((hw1.block b hbl).trans hb);have HBD:=hid ((hw1.drew.block b hbl).trans hb);have HXa1:=hid (hXa.below (hw1.mono hE.hB) (Nat.le_refl _));have HXaD:=hid (hXa.below (hw1.drew.mono hE.hB) (Nat.le_refl _));have HP:=hid hp;obtain⟨⟨b0,b1,b2,b3,b4,b5,b6⟩,bz⟩:=zN hb;clear hE hb hl hok hp hr hw1 hea hgda hsla hXa;go_enter Tryz.func65,Tryz.ntmps65
 go_wp2_with (first
  | (go_at_call 30;(with_reducible refine(jO B vars name _ _ HT.out HVB.out _ _ HE1.out.hB HE1.out.hv).mono ?_);rintro e w9 ⟨rfl,rfl⟩)
  | (go_at_call 82;(with_reducible refine(jo B b p vars _ _ _ _ _ _ _ _ _ fs ft n _ HE1.out HB1.out HXa1.out HOa.out HP.out HR.out).mono ?_);rintro e w2 ⟨rfl,hb2⟩))
 go_ret;exact⟨rfl,HW1.out.trans (hb2.mono (by rw[zA];omega))⟩
set_option maxHeartbeats 1600000 in
include hE hb hl hok hp hfr in
theorem rown_put_no (hk:qb p.arrays name=none) (hr:qh p ft 3 ty name args vars frm loop=r):Calls Tryz.prog 65 #[.pointer (some ⟨b,0,none⟩),stV 3 ty name v3 (.slice A4 n4 c4) (.slice A5 n5 c5),v,.int .i64 (frm:Int),.bool loop] w fun e w'=>e=.returned (.int .i64 r)∧Below w.heap.size w w':=by
 have HR:=hid (show (50 :Int)=r by rw[←hr,qh];rw[if_neg (by decide),if_neg (by decide),if_pos (by decide),hk];rfl);have HK:=hid (show j9 (qb p.arrays name)= -1 by rw[hk];rfl);clear hk;obtain⟨A0,c0,A1,c1,A2,c2,rfl,rfl,rfl⟩:=hE.form;obtain⟨A3,c3,rfl,_⟩:=hl.form;have hbl:=zB hb;have hw1:Below w.heap.size w (w.alloc (qD 3 ty name (.slice A3 args.length c3) (.slice A4 n4 c4) (.slice A5 n5 c5))):=(Below.refl _ _).alloc (Nat.le_refl _) _;have HW1:=hid hw1;have HE:=hid hE;have HE1:=hid (hE.below (hw1.mono hE.hB));have HED:=hid (hE.below (hw1.drew.mono hE.hB));have HB1:=hid ((hw1.block b hbl).trans hb);have HBD:=hid ((hw1.drew.block b hbl).trans hb);have HP:=hid hp;obtain⟨⟨b0,b1,b2,b3,b4,b5,b6⟩,bz⟩:=zN hb;clear hE hb hl hok hp hr hw1;go_enter Tryz.func65,Tryz.ntmps65;go_wp2_with (fail)
 go_region_held3 (fun w'=>w'.cell? ⟨b,0,none⟩=some (.slice A0 p.arrays.length c0)∧w'.cell? ⟨b,1,none⟩=some (.slice A1 p.funcs.length c1)∧w'.cell? ⟨w.heap.size,2,none⟩=some (.string name))
  (first
    | (go_split_ands;refine⟨?_,?_,?_⟩ <;> (first | (rw[hq5];assumption) | (rw[hm5];simp;done)))
    | go_keep)
  (first
    | (go_at_call 63
       (refine(kp B p name _ HK.out _ _ (w.alloc (qD 3 ty name (.slice A3 args.length c3) (.slice A4 n4 c4) (.slice A5 n5 c5))).drew HED.out.hB HED.out.ha HED.out.hf).mono ?_)
       rintro e w2 ⟨rfl,hb2⟩;have hw2:Below w.heap.size w w2:=HW1.out.trans ((Below.refl _ _).drew.trans (hb2.mono (by show w.heap.size≤(w.alloc _).heap.size;rw[zA];omega)));have hq5:∀ x,w2.cell? ⟨b,x,none⟩=w.cell? ⟨b,x,none⟩:=fun x=>hw2.cell (p:=⟨b,x,none⟩) hbl
       have hm5:∀ x,w2.cell? ⟨w.heap.size,x,none⟩=(w.alloc (qD 3 ty name (.slice A3 args.length c3) (.slice A4 n4 c4) (.slice A5 n5 c5))).cell? ⟨w.heap.size,x,none⟩:=fun x=>hb2.cell (p:=⟨w.heap.size,x,none⟩) (by show w.heap.size<(w.alloc _).heap.size;rw[zA];omega)
       have HW2:=hid hw2
       clear hb2 hw2))
 go_wp2_with (fail);go_ret;exact⟨zk HR.out,HW2.out⟩
set_option maxHeartbeats 1600000 in
include hE hb hl hok hp hfr in
theorem rown_put (k:Nat) (hk:qb p.arrays name=some k) (h1:args.length=2) (hr:qh p ft 3 ty name args vars frm loop=r):Calls Tryz.prog 65 #[.pointer (some ⟨b,0,none⟩),stV 3 ty name v3 (.slice A4 n4 c4) (.slice A5 n5 c5),v,.int .i64 (frm:Int),.bool loop] w fun e w'=>e=.returned (.int .i64 r)∧Below w.heap.size w w':=by
 have hpos:0<args.length:=by omega
 have hpos1:1<args.length:=by omega
 obtain⟨⟨ka,opa,nna,sa,asa⟩,hea⟩:∃ e,args[0]? =some e:=⟨_,List.getElem?_eq_getElem (by omega)⟩
 have hgda:args.getD 0 xO=.mk ka opa nna sa asa:=by
  rw[List.getD_eq_getElem?_getD,hea];rfl
 have HOa:=hid (qX hok hea);obtain⟨⟨kc,opc,nnc,sc,asc⟩,hec⟩:∃ e,args[1]? =some e:=⟨_,List.getElem?_eq_getElem (by omega)⟩
 have hgdc:args.getD 1 xO=.mk kc opc nnc sc asc:=by
  rw[List.getD_eq_getElem?_getD,hec];rfl
 have HOc:=hid (qX hok hec);have HR:=hid (show (if q7 p vars (.mk ka opa nna sa asa) 1=0 then q7 p vars (.mk kc opc nnc sc asc) 1 else q7 p vars (.mk ka opa nna sa asa) 1)=r by have h:=hr;rw[qh,if_neg (by decide),if_neg (by decide),if_pos (by decide),hk,if_pos (by rfl),hgda,hgdc]at h;exact h);have HK:=hid (show j9 (qb p.arrays name)=(k:Int) by rw[hk];rfl);clear hk h1;obtain⟨A0,c0,A1,c1,A2,c2,rfl,rfl,rfl⟩:=hE.form;obtain⟨A3,c3,rfl,_⟩:=hl.form;obtain⟨ga,oa,vaa,hAa,hga,ya0,ya1,ya2,ya3,ya4,hsla⟩:=hl.cells hea;subst hAa;rw[show oa+0 * 5=oa by omega]at ya0 ya1 ya2 ya3 ya4;obtain⟨Ba,qa,rfl,_⟩:=hsla.form;have hXa:uC B w (.mk ka opa nna sa asa) (.agg #[.int .i64 ka,.int .i64 opa,.int .i64 nna,.string sa,.slice Ba asa.length qa]):=⟨_,rfl,hl.range hea,hsla⟩
 have hgsa:ga<w.heap.size:=by have:=hE.hB;omega
 obtain⟨gc,oc,vac,hAc,hgc,yc0,yc1,yc2,yc3,yc4,hslc⟩:=hl.cells hec;obtain⟨rfl,rfl⟩:ga=gc∧oa=oc:=by injection hAc with hAc;injection hAc with h1 h2 _;exact⟨h1,h2⟩
 rw[show oa+1 * 5=oa+5 by omega]at yc0 yc1 yc2 yc3 yc4;obtain⟨Bc,qc,rfl,_⟩:=hslc.form;have hXc:uC B w (.mk kc opc nnc sc asc) (.agg #[.int .i64 kc,.int .i64 opc,.int .i64 nnc,.string sc,.slice Bc asc.length qc]):=⟨_,rfl,hl.range hec,hslc⟩
 have hbl:=zB hb;have hw1:Below w.heap.size w (w.alloc (qD 3 ty name (.slice (some ⟨ga,oa,none⟩) args.length c3) (.slice A4 n4 c4) (.slice A5 n5 c5))):=(Below.refl _ _).alloc (Nat.le_refl _) _;have HW1:=hid hw1;have HE:=hid hE;have HE1:=hid (hE.below (hw1.mono hE.hB));have HED:=hid (hE.below (hw1.drew.mono hE.hB));have HB1:=hid ((hw1.block b hbl).trans hb);have HBD:=hid ((hw1.drew.block b hbl).trans hb);have HXa1:=hid (hXa.below (hw1.mono hE.hB) (Nat.le_refl _));have HXaD:=hid (hXa.below (hw1.drew.mono hE.hB) (Nat.le_refl _));have HXc1:=hid (hXc.below (hw1.mono hE.hB) (Nat.le_refl _));have HXcD:=hid (hXc.below (hw1.drew.mono hE.hB) (Nat.le_refl _));have HP:=hid hp;obtain⟨⟨b0,b1,b2,b3,b4,b5,b6⟩,bz⟩:=zN hb;clear hE hb hl hok hp hr hw1 hea hgda hsla hXa hec hgdc hslc hXc;go_enter Tryz.func65,Tryz.ntmps65;obtain⟨ra,hra⟩:∃ z,q7 p vars (.mk ka opa nna sa asa) 1=z:=⟨_,rfl⟩
 obtain⟨rc,hrc⟩:∃ z,q7 p vars (.mk kc opc nnc sc asc) 1=z:=⟨_,rfl⟩
 have HRA:=hid hra;have HRC:=hid hrc;have HRR:=hid (show (if ra=0 then rc else ra)=r by rw[←hra,←hrc];exact HR.out);clear hra hrc;go_wp2_with (fail)
 go_region_held3 (fun w'=>w'.cell? ⟨b,0,none⟩=some (.slice A0 p.arrays.length c0)∧w'.cell? ⟨b,1,none⟩=some (.slice A1 p.funcs.length c1)∧w'.cell? ⟨w.heap.size,2,none⟩=some (.string name))
  (first
    | (go_split_ands;refine⟨?_,?_,?_⟩ <;> (first | (rw[hq5];assumption) | (rw[hm5];simp;done)))
    | go_keep)
  (first
    | (go_at_call 63
       (refine(kp B p name _ HK.out _ _ (w.alloc (qD 3 ty name (.slice (some ⟨ga,oa,none⟩) args.length c3) (.slice A4 n4 c4) (.slice A5 n5 c5))).drew HED.out.hB HED.out.ha HED.out.hf).mono ?_)
       rintro e w2 ⟨rfl,hb2⟩;have hw2:Below w.heap.size w w2:=HW1.out.trans ((Below.refl _ _).drew.trans (hb2.mono (by show w.heap.size≤(w.alloc _).heap.size;rw[zA];omega)));have hq5:∀ x,w2.cell? ⟨b,x,none⟩=w.cell? ⟨b,x,none⟩:=fun x=>hw2.cell (p:=⟨b,x,none⟩) hbl
       have hm5:∀ x,w2.cell? ⟨w.heap.size,x,none⟩=(w.alloc (qD 3 ty name (.slice (some ⟨ga,oa,none⟩) args.length c3) (.slice A4 n4 c4) (.slice A5 n5 c5))).cell? ⟨w.heap.size,x,none⟩:=fun x=>hb2.cell (p:=⟨w.heap.size,x,none⟩) (by show w.heap.size<(w.alloc _).heap.size;rw[zA];omega)
       have hm3:w2.cell? ⟨w.heap.size,3,none⟩=some (.slice (some ⟨ga,oa,none⟩) args.length c3):=by rw[hm5];simp
       have hs2:w.heap.size<w2.heap.size:=by have:=hb2.size;simp at this;omega
       have HWD:=hid (show Below w.heap.size ((w.alloc (qD 3 ty name (.slice (some ⟨ga,oa,none⟩) args.length c3) (.slice A4 n4 c4) (.slice A5 n5 c5))).drew) w2 from hb2.mono (by show w.heap.size≤(w.alloc _).heap.size;rw[zA];omega));have HB2:=hid ((hw2.block b hbl).trans ((HW1.out.block b hbl).symm.trans HB1.out));have hg5:∀ x,w2.cell? ⟨ga,x,none⟩=w.cell? ⟨ga,x,none⟩:=fun x=>hw2.cell (p:=⟨ga,x,none⟩) hgsa
       have HW2:=hid hw2
       clear hb2 hw2))
 have HE2:=hid (HED.out.below (HWD.out.mono HE.out.hB));have HXa2:=hid (HXaD.out.below (HWD.out.mono HE.out.hB) (Nat.le_refl _));have HXc2:=hid (HXcD.out.below (HWD.out.mono HE.out.hB) (Nat.le_refl _));have z0:=(hg5 _).trans ya0;have z1:=(hg5 _).trans ya1;have z2:=(hg5 _).trans ya2;have z3:=(hg5 _).trans ya3;have z4:=(hg5 _).trans ya4;have x0:=(hg5 _).trans yc0;have x1:=(hg5 _).trans yc1;have x2:=(hg5 _).trans yc2;have x3:=(hg5 _).trans yc3;have x4:=(hg5 _).trans yc4;have hgs2:ga<w2.heap.size:=by have:=HW2.out.size;omega
 by_cases hra0:ra=0
 · subst hra0
   go_wp2_with (first
    | (go_at_call 82;(with_reducible refine(jo B b p vars _ _ _ _ _ _ _ _ _ fs ft n _ HE2.out HB2.out HXa2.out HOa.out HP.out HRA.out).mono ?_);rintro e w3 ⟨rfl,hb3⟩
       have hm33:w3.cell? ⟨w.heap.size,3,none⟩=some (.slice (some ⟨ga,oa,none⟩) args.length c3):=(hb3.cell (p:=⟨w.heap.size,3,none⟩) hs2).trans hm3;have hs3:w.heap.size<w3.heap.size:=by have:=hb3.size;omega
       have hgs3:ga<w3.heap.size:=by have:=hb3.size;omega
       have x0':=(hb3.cell (p:=⟨ga,_,none⟩) hgs2).trans x0;have x1':=(hb3.cell (p:=⟨ga,_,none⟩) hgs2).trans x1;have x2':=(hb3.cell (p:=⟨ga,_,none⟩) hgs2).trans x2;have x3':=(hb3.cell (p:=⟨ga,_,none⟩) hgs2).trans x3;have x4':=(hb3.cell (p:=⟨ga,_,none⟩) hgs2).trans x4;have HE3:=hid (HE2.out.below (hb3.mono HE2.out.hB));have HB3:=hid ((hb3.block b (zB HB2.out)).trans HB2.out);have HXc3:=hid (HXc2.out.below (hb3.mono HE2.out.hB) (Nat.le_refl _));have HW3:=hid (HW2.out.trans (hb3.mono HW2.out.size))
       clear hb3)
    | (go_at_call 82;(with_reducible refine(jo B b p vars _ _ _ _ _ _ _ _ _ fs ft n _ HE3.out HB3.out HXc3.out HOc.out HP.out HRC.out).mono ?_);rintro e w4 ⟨rfl,hb4⟩))
   go_ret;exact⟨zk (by rw[←HRR.out];rfl),HW3.out.trans (hb4.mono HW3.out.size)⟩
 · go_wp2_with (first
    | (go_at_call 82;(with_reducible refine(jo B b p vars _ _ _ _ _ _ _ _ _ fs ft n _ HE2.out HB2.out HXa2.out HOa.out HP.out HRA.out).mono ?_);rintro e w3 ⟨rfl,hb3⟩
       have hm33:w3.cell? ⟨w.heap.size,3,none⟩=some (.slice (some ⟨ga,oa,none⟩) args.length c3):=(hb3.cell (p:=⟨w.heap.size,3,none⟩) hs2).trans hm3;have hs3:w.heap.size<w3.heap.size:=by have:=hb3.size;omega
       have hgs3:ga<w3.heap.size:=by have:=hb3.size;omega
       have x0':=(hb3.cell (p:=⟨ga,_,none⟩) hgs2).trans x0;have x1':=(hb3.cell (p:=⟨ga,_,none⟩) hgs2).trans x1;have x2':=(hb3.cell (p:=⟨ga,_,none⟩) hgs2).trans x2;have x3':=(hb3.cell (p:=⟨ga,_,none⟩) hgs2).trans x3;have x4':=(hb3.cell (p:=⟨ga,_,none⟩) hgs2).trans x4;have HE3:=hid (HE2.out.below (hb3.mono HE2.out.hB));have HB3:=hid ((hb3.block b (zB HB2.out)).trans HB2.out);have HXc3:=hid (HXc2.out.below (hb3.mono HE2.out.hB) (Nat.le_refl _));have HW3:=hid (HW2.out.trans (hb3.mono HW2.out.size))
       clear hb3))
   go_ret;exact⟨zk (by rw[←HRR.out,if_neg hra0]),HW3.out⟩
set_option maxHeartbeats 1600000 in
include hE hb hl hok hp hfr in
theorem rown_do (h1:args.length=1) (hr:qh p ft 10 ty name args vars frm loop=r):Calls Tryz.prog 65 #[.pointer (some ⟨b,0,none⟩),stV 10 ty name v3 (.slice A4 n4 c4) (.slice A5 n5 c5),v,.int .i64 (frm:Int),.bool loop] w fun e w'=>e=.returned (.int .i64 r)∧Below w.heap.size w w':=by
 have hpos:0<args.length:=by omega
 obtain⟨⟨ka,opa,nna,sa,asa⟩,hea⟩:∃ e,args[0]? =some e:=⟨_,List.getElem?_eq_getElem (by omega)⟩
 have hgda:args.getD 0 xO=.mk ka opa nna sa asa:=by
  rw[List.getD_eq_getElem?_getD,hea];rfl
 have HOa:=hid (qX hok hea);have HR:=hid (show (qI p vars (.mk ka opa nna sa asa)).2=r by rw[←hr,qh];rw[if_neg (by decide),if_neg (by decide),if_neg (by decide),if_neg (by decide),if_neg (by decide),if_neg (by decide),if_pos (by decide),hgda]);clear h1;obtain⟨A0,c0,A1,c1,A2,c2,rfl,rfl,rfl⟩:=hE.form;obtain⟨A3,c3,rfl,_⟩:=hl.form;obtain⟨ga,oa,vaa,hAa,hga,ya0,ya1,ya2,ya3,ya4,hsla⟩:=hl.cells hea;subst hAa;rw[show oa+0 * 5=oa by omega]at ya0 ya1 ya2 ya3 ya4;obtain⟨Ba,qa,rfl,_⟩:=hsla.form;have hXa:uC B w (.mk ka opa nna sa asa) (.agg #[.int .i64 ka,.int .i64 opa,.int .i64 nna,.string sa,.slice Ba asa.length qa]):=⟨_,rfl,hl.range hea,hsla⟩
 have hgsa:ga<w.heap.size:=by have:=hE.hB;omega
 have hbl:=zB hb;have hw1:Below w.heap.size w (w.alloc (qD 10 ty name (.slice (some ⟨ga,oa,none⟩) args.length c3) (.slice A4 n4 c4) (.slice A5 n5 c5))):=(Below.refl _ _).alloc (Nat.le_refl _) _;have HW1:=hid hw1;have HE:=hid hE;have HE1:=hid (hE.below (hw1.mono hE.hB));have HED:=hid (hE.below (hw1.drew.mono hE.hB));have HB1:=hid ((hw1.block b hbl).trans hb);have HBD:=hid ((hw1.drew.block b hbl).trans hb);have HXa1:=hid (hXa.below (hw1.mono hE.hB) (Nat.le_refl _));have HXaD:=hid (hXa.below (hw1.drew.mono hE.hB) (Nat.le_refl _));have HP:=hid hp;obtain⟨⟨b0,b1,b2,b3,b4,b5,b6⟩,bz⟩:=zN hb;clear hE hb hl hok hp hr hw1 hea hgda hsla hXa;go_enter Tryz.func65,Tryz.ntmps65;obtain⟨⟨t,f⟩,htf⟩:∃ r,qI p vars (.mk ka opa nna sa asa)=r:=⟨_,rfl⟩
 have HTF:=hid htf;have HRF:=hid (show f=r by rw[←HR.out,htf]);clear htf;go_wp2_with (fail)
 go_region_held3 (fun w'=>w'.cell? ⟨b,0,none⟩=some (.slice A0 p.arrays.length c0)∧w'.cell? ⟨b,1,none⟩=some (.slice A1 p.funcs.length c1)∧w'.cell? ⟨w.heap.size,3,none⟩=some (.slice (some ⟨ga,oa,none⟩) args.length c3)∧w'.cell? ⟨ga,oa,none⟩=some (.int .i64 ka)∧w'.cell? ⟨ga,oa+1,none⟩=some (.int .i64 opa)∧w'.cell? ⟨ga,oa+2,none⟩=some (.int .i64 nna)∧w'.cell? ⟨ga,oa+3,none⟩=some (.string sa)∧w'.cell? ⟨ga,oa+4,none⟩=some (.slice Ba asa.length qa))
  (first
    | (go_split_ands;refine⟨?_,?_,?_,?_,?_,?_,?_,?_⟩ <;> (first | (rw[hq5];assumption) | (rw[hm5];simp;done) | (rw[hg5];assumption)))
    | go_keep)
  (first
    | (go_at_call 83
       (refine((rtype_all 100).call (w:=(w.alloc (qD 10 ty name (.slice (some ⟨ga,oa,none⟩) args.length c3) (.slice A4 n4 c4) (.slice A5 n5 c5))).drew) HOa.out HP.out HTF.out HED.out HXaD.out).mono ?_)
       rintro e w2 ⟨rfl,hb2⟩;have hw2:Below w.heap.size w w2:=HW1.out.trans ((Below.refl _ _).drew.trans (hb2.mono (by show w.heap.size≤(w.alloc _).heap.size;rw[zA];omega)));have hq5:∀ x,w2.cell? ⟨b,x,none⟩=w.cell? ⟨b,x,none⟩:=fun x=>hw2.cell (p:=⟨b,x,none⟩) hbl
       have hm5:∀ x,w2.cell? ⟨w.heap.size,x,none⟩=(w.alloc (qD 10 ty name (.slice (some ⟨ga,oa,none⟩) args.length c3) (.slice A4 n4 c4) (.slice A5 n5 c5))).cell? ⟨w.heap.size,x,none⟩:=fun x=>hb2.cell (p:=⟨w.heap.size,x,none⟩) (by show w.heap.size<(w.alloc _).heap.size;rw[zA];omega)
       have hg5:∀ x,w2.cell? ⟨ga,x,none⟩=w.cell? ⟨ga,x,none⟩:=fun x=>hw2.cell (p:=⟨ga,x,none⟩) hgsa
       have HW2:=hid hw2
       clear hb2 hw2))
 go_wp2_with (fail);go_ret;exact⟨zk HRF.out,HW2.out⟩
set_option maxHeartbeats 1600000 in
include hE hb hl hok hp hfr in
theorem rown_break (hr:qh p ft 6 ty name args vars frm loop=r):Calls Tryz.prog 65 #[.pointer (some ⟨b,0,none⟩),stV 6 ty name v3 (.slice A4 n4 c4) (.slice A5 n5 c5),v,.int .i64 (frm:Int),.bool loop] w fun e w'=>e=.returned (.int .i64 r)∧Below w.heap.size w w':=by
 have HR:=hid (show (if loop=true then 0 else 53 :Int)=r by have h:=hr;rw[qh,if_neg (by decide),if_neg (by decide),if_neg (by decide),if_neg (by decide),if_neg (by decide),if_neg (by decide),if_neg (by decide)]at h;exact h);obtain⟨A0,c0,A1,c1,A2,c2,rfl,rfl,rfl⟩:=hE.form;obtain⟨A3,c3,rfl,_⟩:=hl.form;have hbl:=zB hb;have hw1:Below w.heap.size w (w.alloc (qD 6 ty name (.slice A3 args.length c3) (.slice A4 n4 c4) (.slice A5 n5 c5))):=(Below.refl _ _).alloc (Nat.le_refl _) _;have HW1:=hid hw1;have HE:=hid hE;have HE1:=hid (hE.below (hw1.mono hE.hB));have HED:=hid (hE.below (hw1.drew.mono hE.hB));have HB1:=hid ((hw1.block b hbl).trans hb);have HBD:=hid ((hw1.drew.block b hbl).trans hb);have HP:=hid hp;obtain⟨⟨b0,b1,b2,b3,b4,b5,b6⟩,bz⟩:=zN hb;clear hE hb hl hok hp hr hw1;go_enter Tryz.func65,Tryz.ntmps65;cases loop
 all_goals
  go_wp2_with (fail);go_ret;exact⟨zk (by rw[←HR.out];rfl),HW1.out⟩
set_option maxHeartbeats 1600000 in
include hE hb hl hok hp hfr in
theorem rown_continue (hr:qh p ft 7 ty name args vars frm loop=r):Calls Tryz.prog 65 #[.pointer (some ⟨b,0,none⟩),stV 7 ty name v3 (.slice A4 n4 c4) (.slice A5 n5 c5),v,.int .i64 (frm:Int),.bool loop] w fun e w'=>e=.returned (.int .i64 r)∧Below w.heap.size w w':=by
 have HR:=hid (show (if loop=true then 0 else 53 :Int)=r by have h:=hr;rw[qh,if_neg (by decide),if_neg (by decide),if_neg (by decide),if_neg (by decide),if_neg (by decide),if_neg (by decide),if_neg (by decide)]at h;exact h);obtain⟨A0,c0,A1,c1,A2,c2,rfl,rfl,rfl⟩:=hE.form;obtain⟨A3,c3,rfl,_⟩:=hl.form;have hbl:=zB hb;have hw1:Below w.heap.size w (w.alloc (qD 7 ty name (.slice A3 args.length c3) (.slice A4 n4 c4) (.slice A5 n5 c5))):=(Below.refl _ _).alloc (Nat.le_refl _) _;have HW1:=hid hw1;have HE:=hid hE;have HE1:=hid (hE.below (hw1.mono hE.hB));have HED:=hid (hE.below (hw1.drew.mono hE.hB));have HB1:=hid ((hw1.block b hbl).trans hb);have HBD:=hid ((hw1.drew.block b hbl).trans hb);have HP:=hid hp;obtain⟨⟨b0,b1,b2,b3,b4,b5,b6⟩,bz⟩:=zN hb;clear hE hb hl hok hp hr hw1;go_enter Tryz.func65,Tryz.ntmps65;cases loop
 all_goals
  go_wp2_with (fail);go_ret;exact⟨zk (by rw[←HR.out];rfl),HW1.out⟩
set_option maxHeartbeats 1600000 in
include hE hb hl hok hp hfr in
theorem rown_let (h1:args.length=1) (hr:qh p ft 1 ty name args vars frm loop=r):Calls Tryz.prog 65 #[.pointer (some ⟨b,0,none⟩),stV 1 ty name v3 (.slice A4 n4 c4) (.slice A5 n5 c5),v,.int .i64 (frm:Int),.bool loop] w fun e w'=>e=.returned (.int .i64 r)∧Below w.heap.size w w':=by
 have hpos:0<args.length:=by omega
 obtain⟨⟨ka,opa,nna,sa,asa⟩,hea⟩:∃ e,args[0]? =some e:=⟨_,List.getElem?_eq_getElem (by omega)⟩
 have hgda:args.getD 0 xO=.mk ka opa nna sa asa:=by
  rw[List.getD_eq_getElem?_getD,hea];rfl
 have HOa:=hid (qX hok hea);have HR:=hid (show (if q7 p vars (.mk ka opa nna sa asa) ty=0 then (if (zW (vars.drop frm) name).isSome then 50 else 0) else q7 p vars (.mk ka opa nna sa asa) ty)=r by have h:=hr;rw[qh,if_pos (by decide),hgda]at h;exact h);clear h1;obtain⟨A0,c0,A1,c1,A2,c2,rfl,rfl,rfl⟩:=hE.form;obtain⟨A3,c3,rfl,_⟩:=hl.form;obtain⟨ga,oa,vaa,hAa,hga,ya0,ya1,ya2,ya3,ya4,hsla⟩:=hl.cells hea;subst hAa;rw[show oa+0 * 5=oa by omega]at ya0 ya1 ya2 ya3 ya4;obtain⟨Ba,qa,rfl,_⟩:=hsla.form;have hXa:uC B w (.mk ka opa nna sa asa) (.agg #[.int .i64 ka,.int .i64 opa,.int .i64 nna,.string sa,.slice Ba asa.length qa]):=⟨_,rfl,hl.range hea,hsla⟩
 have hgsa:ga<w.heap.size:=by have:=hE.hB;omega
 have hbl:=zB hb;have hw1:Below w.heap.size w (w.alloc (qD 1 ty name (.slice (some ⟨ga,oa,none⟩) args.length c3) (.slice A4 n4 c4) (.slice A5 n5 c5))):=(Below.refl _ _).alloc (Nat.le_refl _) _;have HW1:=hid hw1;have HE:=hid hE;have HE1:=hid (hE.below (hw1.mono hE.hB));have HED:=hid (hE.below (hw1.drew.mono hE.hB));have HB1:=hid ((hw1.block b hbl).trans hb);have HBD:=hid ((hw1.drew.block b hbl).trans hb);have HXa1:=hid (hXa.below (hw1.mono hE.hB) (Nat.le_refl _));have HXaD:=hid (hXa.below (hw1.drew.mono hE.hB) (Nat.le_refl _));have HP:=hid hp;obtain⟨⟨b0,b1,b2,b3,b4,b5,b6⟩,bz⟩:=zN hb;clear hE hb hl hok hp hr hw1 hea hgda hsla hXa;go_enter Tryz.func65,Tryz.ntmps65;obtain⟨ra,hra⟩:∃ z,q7 p vars (.mk ka opa nna sa asa) ty=z:=⟨_,rfl⟩
 have HRA:=hid hra;obtain⟨t9,ht9⟩:∃ z,(zW (vars.drop frm) name).getD 0=z:=⟨_,rfl⟩
 obtain⟨b9,hb9⟩:∃ z,(zW (vars.drop frm) name).isSome=z:=⟨_,rfl⟩
 have HT9:=hid ht9;have HB9:=hid hb9;have HRR:=hid (show (if ra=0 then (if b9=true then 50 else 0) else ra)=r by rw[←hra,←hb9];exact HR.out);clear hra ht9 hb9;have hvs:=HE.out.hv;go_wp2_with (fail)
 go_region_held3 (fun w'=>w'.cell? ⟨w.heap.size,3,none⟩=some (.slice (some ⟨ga,oa,none⟩) args.length c3)∧w'.cell? ⟨w.heap.size,1,none⟩=some (.int .i64 ty)∧w'.cell? ⟨ga,oa,none⟩=some (.int .i64 ka)∧w'.cell? ⟨ga,oa+1,none⟩=some (.int .i64 opa)∧w'.cell? ⟨ga,oa+2,none⟩=some (.int .i64 nna)∧w'.cell? ⟨ga,oa+3,none⟩=some (.string sa)∧w'.cell? ⟨ga,oa+4,none⟩=some (.slice Ba asa.length qa))
  (first
    | (go_split_ands;refine⟨?_,?_,?_,?_,?_,?_,?_⟩ <;> (first | (rw[hq5];assumption) | (rw[hm5];simp;done) | (rw[hg5];assumption)))
    | go_keep)
  (first
    | (go_at_call 82
       (refine(jo B b p vars _ _ _ _ _ _ _ _ _ fs ft n (w.alloc (qD 1 ty name (.slice (some ⟨ga,oa,none⟩) args.length c3) (.slice A4 n4 c4) (.slice A5 n5 c5))).drew HED.out HBD.out HXaD.out HOa.out HP.out HRA.out).mono ?_)
       rintro e w2 ⟨rfl,hb2⟩;have hw2:Below w.heap.size w w2:=HW1.out.trans ((Below.refl _ _).drew.trans (hb2.mono (by show w.heap.size≤(w.alloc _).heap.size;rw[zA];omega)));have hq5:∀ x,w2.cell? ⟨b,x,none⟩=w.cell? ⟨b,x,none⟩:=fun x=>hw2.cell (p:=⟨b,x,none⟩) hbl
       have hm5:∀ x,w2.cell? ⟨w.heap.size,x,none⟩=(w.alloc (qD 1 ty name (.slice (some ⟨ga,oa,none⟩) args.length c3) (.slice A4 n4 c4) (.slice A5 n5 c5))).cell? ⟨w.heap.size,x,none⟩:=fun x=>hb2.cell (p:=⟨w.heap.size,x,none⟩) (by show w.heap.size<(w.alloc _).heap.size;rw[zA];omega)
       have hm2:w2.cell? ⟨w.heap.size,2,none⟩=some (.string name):=by rw[hm5];simp
       have hs2:w.heap.size<w2.heap.size:=by have:=hb2.size;simp at this;omega
       have HWD:=hid (show Below w.heap.size ((w.alloc (qD 1 ty name (.slice (some ⟨ga,oa,none⟩) args.length c3) (.slice A4 n4 c4) (.slice A5 n5 c5))).drew) w2 from hb2.mono (by show w.heap.size≤(w.alloc _).heap.size;rw[zA];omega));have hg5:∀ x,w2.cell? ⟨ga,x,none⟩=w.cell? ⟨ga,x,none⟩:=fun x=>hw2.cell (p:=⟨ga,x,none⟩) hgsa
       have HW2:=hid hw2
       clear hb2 hw2))
 have hvs2:=HED.out.hv.below (HWD.out.mono HE.out.hB) (Nat.le_refl _);have HVD:=hid (fun n=>(hvs2.dropS frm hfr).below (show Below B w2 (w2.drewN n) from(Below.refl _ _).trans ⟨rfl,rfl,rfl,Nat.le_refl _,fun _ _=>rfl⟩) (Nat.le_refl _));have hB2:B≤w2.heap.size:=Nat.le_trans HE.out.hB HW2.out.size;clear hvs2 hvs;by_cases hra0:ra=0
 · subst hra0
   cases b9
   all_goals
    go_wp2_with (fail)
    go_quiet ((go_at_call 30;exact(jO B (vars.drop frm) name t9 _ HT9.out HB9.out _ _ (by exact hB2) (HVD.out _)).mono fun e w' h=>⟨h.1,_,h.2.symm⟩))
    go_wp2_with (fail)
    all_goals go_ret
    all_goals exact⟨zk (by rw[←HRR.out];rfl),bdN HW2.out _⟩
 · cases b9
   all_goals
    go_wp2_with (fail)
    go_quiet ((go_at_call 30;exact(jO B (vars.drop frm) name t9 _ HT9.out HB9.out _ _ (by exact hB2) (HVD.out _)).mono fun e w' h=>⟨h.1,_,h.2.symm⟩))
    have nra:(ra == 0)=false:=by simp[hra0]
    go_wp2_with (fail)
    all_goals go_ret
    all_goals exact⟨zk (by rw[←HRR.out,if_neg hra0]),bdN HW2.out _⟩
theorem jP (k:Int) (ic:Bool) (hf:z5 k ty name args.length n4 n5 ic=true) (hr:qh p ft k ty name args vars frm loop=r) (hE:REnv B p vars v0 v1 v w) (hb:w.heap[b]? =some (rckO v0 v1 fs ft v2 vb n)) (hl:qy B w v3 args) (hok:zr args 100=true) (hp:uh p) (hfr:frm≤vars.length):
 Calls Tryz.prog 65 #[.pointer (some ⟨b,0,none⟩),stV k ty name v3 (.slice A4 n4 c4) (.slice A5 n5 c5),v,.int .i64 (frm:Int),.bool loop] w fun e w'=>e=.returned (.int .i64 r)∧Below w.heap.size w w':=by
 rcases formS_ten hf with rfl | rfl | rfl | rfl | rfl | rfl | rfl | rfl | rfl | rfl
 · exact rown_let B b p vars ty name args frm loop A4 n4 c4 A5 n5 c5 r v3 v0 v1 v v2 vb fs ft n w hE hb hl hok hp hfr (by simp[z5]at hf;exact hf.1.1.2) hr
 · cases hv:zW vars name with
   | none=>exact rown_set_no B b p vars ty name args frm loop A4 n4 c4 A5 n5 c5 r v3 v0 v1 v v2 vb fs ft n w hE hb hl hok hp hfr hv hr
   | some t=>exact rown_set B b p vars ty name args frm loop A4 n4 c4 A5 n5 c5 r v3 v0 v1 v v2 vb fs ft n w hE hb hl hok hp hfr t hv (by simp[z5]at hf;exact hf.1.1.2) hr
 · cases hv:qb p.arrays name with
   | none=>exact rown_put_no B b p vars ty name args frm loop A4 n4 c4 A5 n5 c5 r v3 v0 v1 v v2 vb fs ft n w hE hb hl hok hp hfr hv hr
   | some t=>exact rown_put B b p vars ty name args frm loop A4 n4 c4 A5 n5 c5 r v3 v0 v1 v v2 vb fs ft n w hE hb hl hok hp hfr t hv (by simp[z5]at hf;exact hf.1.1.2) hr
 · exact rown_if B b p vars ty name args frm loop A4 n4 c4 A5 n5 c5 r v3 v0 v1 v v2 vb fs ft n w hE hb hl hok hp hfr (by simp[z5]at hf;exact hf.2) hr
 · exact rown_while B b p vars ty name args frm loop A4 n4 c4 A5 n5 c5 r v3 v0 v1 v v2 vb fs ft n w hE hb hl hok hp hfr (by simp[z5]at hf;exact hf.1.2) hr
 · exact rown_break B b p vars ty name args frm loop A4 n4 c4 A5 n5 c5 r v3 v0 v1 v v2 vb fs ft n w hE hb hl hok hp hfr hr
 · exact rown_continue B b p vars ty name args frm loop A4 n4 c4 A5 n5 c5 r v3 v0 v1 v v2 vb fs ft n w hE hb hl hok hp hfr hr
 · exact rown_return B b p vars ty name args frm loop A4 n4 c4 A5 n5 c5 r v3 v0 v1 v v2 vb fs ft n w hE hb hl hok hp hfr (by simp[z5]at hf;exact hf.1.1.2) hr
 · exact rown_print B b p vars ty name args frm loop A4 n4 c4 A5 n5 c5 r v3 v0 v1 v v2 vb fs ft n w hE hb hl hok hp hfr (by simp[z5]at hf;exact hf.1.1.2) hr
 · exact rown_do B b p vars ty name args frm loop A4 n4 c4 A5 n5 c5 r v3 v0 v1 v v2 vb fs ft n w hE hb hl hok hp hfr (by simp[z5]at hf;omega) hr
end
theorem numB_parts {l:List UInt8} (h:jr l=true):l≠[]∧l.all jg=true∧jU 0 l<9223372036854775808:=by
 simp only[jr,Bool.and_eq_true,decide_eq_true_eq]at h;refine⟨fun e=>?_,h.1.1.2,h.2⟩;rw[e]at h;simp at h
theorem rvalue_num (s:ByteArray) (w:World) (hs:s.size≤281474976710656) (hn:jr s.data.toList=true):
 Calls Tryz.prog 43 #[.string s] w fun e w'=>e=.returned (.int .i64 (jU 0 s.data.toList:Nat))∧w=w':=by
 obtain⟨hne,hd,hbg⟩:=numB_parts hn;have hp:0<s.size:=by rw[Lib.size_eq];exact List.length_pos_iff.2 hne
 have he:s.toList.isEmpty=false:=by rw[Lib.toList_data];simpa using hne
 have HD:=hid hd;have HNB:=hid hn;have HB:=hid hbg;clear hne hd hn hbg;go_enter Tryz.func43,Tryz.ntmps43;go_wp2
 go_loop [3,4,5] (fun n i _=>∃ (k m:Nat),k≤s.size∧i=.int .i64 k∧n=.int .i64 m∧m=jU 0 (s.data.toList.take k)∧m<9223372036854775808) (fun _ i _=>s.size-(intOf i).toNat)
 case atStart=>exact⟨0,0,Nat.zero_le _,rfl,rfl,by rw[List.take_zero,yx],by omega⟩
 case round=>
  obtain⟨k,m,hk,rfl,rfl,hm,hbig⟩:=hrel;have HM:=hid hm;clear hm;by_cases hlt:k<s.size
  · obtain⟨c,hc⟩:∃ c:Int,(s[k].toNat:Int)=c:=⟨_,rfl⟩
    have hix:=yc s k hlt c hc;have HC:=hid hc;have hdk:=dig_at hlt HD.out;have h48:48≤c:=by omega
    have h57:c≤57:=by omega
    clear hc hdk
    have hov:¬ (9223372036854775807-(c-48)) / 10<(m:Int):=fun hov=>by
     have:=numB_over s k m hlt HM.out c HC.out h48 hov;rw[HNB.out]at this;cases this
    go_wp2;have HC2:=HC.out;have hmc:((m * 10+(s[k].toNat-48):Nat):Int)=(m:Int) * 10+(c-48):=by omega
    have hle:=ub s.data.toList (k+1);rw[vk hlt,yL,←HM.out]at hle;have hb2:=HB.out;go_round
    case rel=>exact⟨k+1,m * 10+(s[k].toNat-48),by omega,by go_num,by rw[hmc],by rw[vk hlt,yL,←HM.out],by omega⟩
    case measure=>simp[intOf];omega
  · have e:k=s.size:=by omega
    subst e
    have HM2:Hid (m=jU 0 s.data.toList):=by
     unfold Hid;rw[HM.out,List.take_of_length_le (by rw[←Lib.size_eq];exact Nat.le_refl _)]
    obtain⟨c,hc⟩:∃ c:Int,(s[0].toNat:Int)=c:=⟨_,rfl⟩
    have hix:=byte_index0 s hp c hc
    have hN:(decide (s.size=1) || decide (c≠48))=true:=by
     rw[←HNB.out,numB_one s hp HD.out HB.out];congr 1;rw[Bool.eq_iff_iff];simp;omega
    have HN:=hid hN;clear hc hN;by_cases h1:1<s.size
    · have h2:c≠48:=by
       have:=HN.out;rw[decide_eq_false (show ¬ s.size=1 by omega),Bool.false_or]at this;exact of_decide_eq_true this
      go_wp2;go_ret;exact⟨congrArg (fun n:Nat=>Ending.returned (.int .i64 (n:Int))) HM2.out,rfl⟩
    · go_wp2
      go_ret;exact⟨congrArg (fun n:Nat=>Ending.returned (.int .i64 (n:Int))) HM2.out,rfl⟩
end Go.Proofs.YtfghofifjnbicaaGreatDoor
