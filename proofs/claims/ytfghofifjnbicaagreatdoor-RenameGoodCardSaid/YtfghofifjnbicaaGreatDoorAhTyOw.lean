import Derived.Test.YtfghofifjnbicaaGreatDoorAhZed
import Derived.Test.YtfghofifjnbicaaGreatDoorAhParLex
import Derived.Test.YtfghofifjnbicaaGreatDoorAhTokRefA
import Derived.Test.YtfghofifjnbicaaGreatDoorAhTokScan
import Derived.Deep.QuietTactic
import Derived.BigQuiet
set_option linter.unusedSimpArgs false
set_option linter.unusedVariables false
set_option maxRecDepth 100000
/- The contract of the document's own: what is wrong with a statement, but for those in it. (By tools/gen_tyow.py.) -/
namespace Go.Proofs.YtfghofifjnbicaaGreatDoor
open Lib (hid)
open Go.RowKit
theorem rdL_drop {α:Type} {size:Nat} {F:α→Nat→Nat→Prop}:∀ (k:Nat) (l:List α) (g o:Nat),xn size F l g o→xn size F (l.drop k) g (o+k * size)
 | 0,l,g,o,h=>by simpa using h
 | k+1,[],g,o,h=>trivial
 | k+1,a :: r,g,o,h=>by
   have:=rdL_drop k r g (o+size) h.2;rw[List.drop_succ_cons,show o+(k+1) * size=o+size+k * size by rw[Nat.add_mul,Nat.one_mul];omega];exact this
theorem addr_add (g o k:Nat):(⟨g,o,none⟩:Addr).add k=⟨g,o+k,none⟩:=by unfold Addr.add;split <;> simp_all
theorem SlP.dropS {B:Nat} {w:World} {A:Option Addr} {c:Nat} {l:List Pa} (h:SlP B w (.slice A l.length c) l) (k:Nat) (hk:k≤l.length):SlP B w (.slice (if c=k then A else Option.map (fun x=>x.add (k * 2)) A) (l.length-k) (c-k)) (l.drop k):=by
 have hc:=h.2 A l.length c rfl;refine⟨⟨_,c-k,by rw[List.length_drop],?_,fun hp=>?_⟩,fun A' n' c' hv=>by injection hv with _ h1 h2;omega⟩
 · obtain⟨_,_,_,hn⟩:=h.form
   rw[List.length_drop];omega
 · rw[List.length_drop]at hp
   obtain⟨g,o,rfl,hr⟩:=xF.elem h.1 rfl (by omega);refine⟨g,o+k * 2,?_,rdL_drop k l g o hr⟩;rw[if_neg (by omega),Option.map_some,addr_add]
theorem rdL_take {α:Type} {size:Nat} {F:α→Nat→Nat→Prop}:∀ (k:Nat) (l:List α) (g o:Nat),xn size F l g o→xn size F (l.take k) g o
 | 0,l,g,o,h=>trivial
 | k+1,[],g,o,h=>trivial
 | k+1,a :: r,g,o,h=>⟨h.1,rdL_take k r g (o+size) h.2⟩
set_option linter.unusedSectionVars false
section
variable (B b:Nat) (p:Pr) (vars:List Pa) (ty:Int) (name:ByteArray) (args:List Ex) (frm:Nat) (loop:Bool) (A4:Option Addr) (n4 c4:Nat) (A5:Option Addr) (n5 c5:Nat) (r:Int) (v3 v0 v1 v v2 vb:Value) (fs:ByteArray) (ft n:Int) (w:World)
variable (hE:REnv B p vars v0 v1 v w) (hb:w.heap[b]? =some (rckO v0 v1 fs ft v2 vb n)) (hl:qw B w v3 args) (hok:zr args 100=true) (hp:ui p) (hfr:frm≤vars.length)
set_option maxHeartbeats 1600000 in
include hE hb hl hok hp hfr in
theorem rown_if (h1:args.length=1) (hr:qh p ft 4 ty name args vars frm loop=r):Calls Tryz.prog 65 #[.pointer (some ⟨b,0,none⟩),stV 4 ty name v3 (.slice A4 n4 c4) (.slice A5 n5 c5),v,.int .i64 (frm:Int),.bool loop] w fun e w'=>e=.returned (.int .i64 r)∧Below w.heap.size w w':=by
 have hpos:0<args.length:=by omega
 obtain⟨⟨ka,opa,nna,sa,asa⟩,hea⟩:∃ e,args[0]? =some e:=⟨_,List.getElem?_eq_getElem (by omega)⟩
 have hgda:args.getD 0 xL=.mk ka opa nna sa asa:=by
  rw[List.getD_eq_getElem?_getD,hea];rfl
 have HOa:=hid (qV hok hea);have HR:=hid (show q7 p vars (.mk ka opa nna sa asa) 2=r by rw[←hr,qh];rw[if_neg (by decide),if_neg (by decide),if_neg (by decide),if_pos (by decide),hgda]);clear h1;obtain⟨A0,c0,A1,c1,A2,c2,rfl,rfl,rfl⟩:=hE.form;obtain⟨A3,c3,rfl,_⟩:=hl.form;obtain⟨ga,oa,vaa,hAa,hga,ya0,ya1,ya2,ya3,ya4,hsla⟩:=hl.cells hea;subst hAa;rw[show oa+0 * 5=oa by omega]at ya0 ya1 ya2 ya3 ya4;obtain⟨Ba,qa,rfl,_⟩:=hsla.form;have hXa:vx B w (.mk ka opa nna sa asa) (.agg #[.int .i64 ka,.int .i64 opa,.int .i64 nna,.string sa,.slice Ba asa.length qa]):=⟨_,rfl,hl.range hea,hsla⟩
 have hgsa:ga<w.heap.size:=by have:=hE.hB;omega
 have hbl:=zB hb;have hw1:Below w.heap.size w (w.alloc (qC 4 ty name (.slice (some ⟨ga,oa,none⟩) args.length c3) (.slice A4 n4 c4) (.slice A5 n5 c5))):=Zb.alloc Zr _;have HW1:=hid hw1;have HE:=hid hE;have HE1:=hid (hE.below (hw1.mono hE.hB));have HED:=hid (hE.below (hw1.drew.mono hE.hB));have HB1:=hid ((hw1.block b hbl).trans hb);have HBD:=hid ((hw1.drew.block b hbl).trans hb);have HXa1:=hid (hXa.below (hw1.mono hE.hB) Zr);have HXaD:=hid (hXa.below (hw1.drew.mono hE.hB) Zr);have HP:=hid hp;obtain⟨⟨b0,b1,b2,b3,b4,b5,b6⟩,bz⟩:=zN hb;clear hE hb hl hok hp hr hw1 hea hgda hsla hXa;go_enter Tryz.func65,Tryz.ntmps65;go_wp2_with (go_at_call 82;(with_reducible refine(jj B b p vars _ _ _ _ _ _ _ _ _ fs ft n _ HE1.out HB1.out HXa1.out HOa.out HP.out HR.out).mono ?_);rintro e w2 ⟨rfl,hb2⟩);go_ret;exact⟨rfl,HW1.out.trans (hb2.mono (by rw[zA];omega))⟩
set_option maxHeartbeats 1600000 in
include hE hb hl hok hp hfr in
theorem rown_while (h1:args.length=1) (hr:qh p ft 5 ty name args vars frm loop=r):Calls Tryz.prog 65 #[.pointer (some ⟨b,0,none⟩),stV 5 ty name v3 (.slice A4 n4 c4) (.slice A5 n5 c5),v,.int .i64 (frm:Int),.bool loop] w fun e w'=>e=.returned (.int .i64 r)∧Below w.heap.size w w':=by
 have hpos:0<args.length:=by omega
 obtain⟨⟨ka,opa,nna,sa,asa⟩,hea⟩:∃ e,args[0]? =some e:=⟨_,List.getElem?_eq_getElem (by omega)⟩
 have hgda:args.getD 0 xL=.mk ka opa nna sa asa:=by
  rw[List.getD_eq_getElem?_getD,hea];rfl
 have HOa:=hid (qV hok hea);have HR:=hid (show q7 p vars (.mk ka opa nna sa asa) 2=r by rw[←hr,qh];rw[if_neg (by decide),if_neg (by decide),if_neg (by decide),if_pos (by decide),hgda]);clear h1;obtain⟨A0,c0,A1,c1,A2,c2,rfl,rfl,rfl⟩:=hE.form;obtain⟨A3,c3,rfl,_⟩:=hl.form;obtain⟨ga,oa,vaa,hAa,hga,ya0,ya1,ya2,ya3,ya4,hsla⟩:=hl.cells hea;subst hAa;rw[show oa+0 * 5=oa by omega]at ya0 ya1 ya2 ya3 ya4;obtain⟨Ba,qa,rfl,_⟩:=hsla.form;have hXa:vx B w (.mk ka opa nna sa asa) (.agg #[.int .i64 ka,.int .i64 opa,.int .i64 nna,.string sa,.slice Ba asa.length qa]):=⟨_,rfl,hl.range hea,hsla⟩
 have hgsa:ga<w.heap.size:=by have:=hE.hB;omega
 have hbl:=zB hb;have hw1:Below w.heap.size w (w.alloc (qC 5 ty name (.slice (some ⟨ga,oa,none⟩) args.length c3) (.slice A4 n4 c4) (.slice A5 n5 c5))):=Zb.alloc Zr _;have HW1:=hid hw1;have HE:=hid hE;have HE1:=hid (hE.below (hw1.mono hE.hB));have HED:=hid (hE.below (hw1.drew.mono hE.hB));have HB1:=hid ((hw1.block b hbl).trans hb);have HBD:=hid ((hw1.drew.block b hbl).trans hb);have HXa1:=hid (hXa.below (hw1.mono hE.hB) Zr);have HXaD:=hid (hXa.below (hw1.drew.mono hE.hB) Zr);have HP:=hid hp;obtain⟨⟨b0,b1,b2,b3,b4,b5,b6⟩,bz⟩:=zN hb;clear hE hb hl hok hp hr hw1 hea hgda hsla hXa;go_enter Tryz.func65,Tryz.ntmps65;go_wp2_with (go_at_call 82;(with_reducible refine(jj B b p vars _ _ _ _ _ _ _ _ _ fs ft n _ HE1.out HB1.out HXa1.out HOa.out HP.out HR.out).mono ?_);rintro e w2 ⟨rfl,hb2⟩);go_ret;exact⟨rfl,HW1.out.trans (hb2.mono (by rw[zA];omega))⟩
set_option maxHeartbeats 1600000 in
include hE hb hl hok hp hfr in
theorem rown_print (h1:args.length=1) (hr:qh p ft 9 ty name args vars frm loop=r):Calls Tryz.prog 65 #[.pointer (some ⟨b,0,none⟩),stV 9 ty name v3 (.slice A4 n4 c4) (.slice A5 n5 c5),v,.int .i64 (frm:Int),.bool loop] w fun e w'=>e=.returned (.int .i64 r)∧Below w.heap.size w w':=by
 have hpos:0<args.length:=by omega
 obtain⟨⟨ka,opa,nna,sa,asa⟩,hea⟩:∃ e,args[0]? =some e:=⟨_,List.getElem?_eq_getElem (by omega)⟩
 have hgda:args.getD 0 xL=.mk ka opa nna sa asa:=by
  rw[List.getD_eq_getElem?_getD,hea];rfl
 have HOa:=hid (qV hok hea);have HR:=hid (show q7 p vars (.mk ka opa nna sa asa) 1=r by rw[←hr,qh];rw[if_neg (by decide),if_neg (by decide),if_neg (by decide),if_neg (by decide),if_neg (by decide),if_pos (by decide),hgda]);clear h1;obtain⟨A0,c0,A1,c1,A2,c2,rfl,rfl,rfl⟩:=hE.form;obtain⟨A3,c3,rfl,_⟩:=hl.form;obtain⟨ga,oa,vaa,hAa,hga,ya0,ya1,ya2,ya3,ya4,hsla⟩:=hl.cells hea;subst hAa;rw[show oa+0 * 5=oa by omega]at ya0 ya1 ya2 ya3 ya4;obtain⟨Ba,qa,rfl,_⟩:=hsla.form;have hXa:vx B w (.mk ka opa nna sa asa) (.agg #[.int .i64 ka,.int .i64 opa,.int .i64 nna,.string sa,.slice Ba asa.length qa]):=⟨_,rfl,hl.range hea,hsla⟩
 have hgsa:ga<w.heap.size:=by have:=hE.hB;omega
 have hbl:=zB hb;have hw1:Below w.heap.size w (w.alloc (qC 9 ty name (.slice (some ⟨ga,oa,none⟩) args.length c3) (.slice A4 n4 c4) (.slice A5 n5 c5))):=Zb.alloc Zr _;have HW1:=hid hw1;have HE:=hid hE;have HE1:=hid (hE.below (hw1.mono hE.hB));have HED:=hid (hE.below (hw1.drew.mono hE.hB));have HB1:=hid ((hw1.block b hbl).trans hb);have HBD:=hid ((hw1.drew.block b hbl).trans hb);have HXa1:=hid (hXa.below (hw1.mono hE.hB) Zr);have HXaD:=hid (hXa.below (hw1.drew.mono hE.hB) Zr);have HP:=hid hp;obtain⟨⟨b0,b1,b2,b3,b4,b5,b6⟩,bz⟩:=zN hb;clear hE hb hl hok hp hr hw1 hea hgda hsla hXa;go_enter Tryz.func65,Tryz.ntmps65;go_wp2_with (go_at_call 82;(with_reducible refine(jj B b p vars _ _ _ _ _ _ _ _ _ fs ft n _ HE1.out HB1.out HXa1.out HOa.out HP.out HR.out).mono ?_);rintro e w2 ⟨rfl,hb2⟩);go_ret;exact⟨rfl,HW1.out.trans (hb2.mono (by rw[zA];omega))⟩
set_option maxHeartbeats 1600000 in
include hE hb hl hok hp hfr in
theorem rown_return (h1:args.length=1) (hr:qh p ft 8 ty name args vars frm loop=r):Calls Tryz.prog 65 #[.pointer (some ⟨b,0,none⟩),stV 8 ty name v3 (.slice A4 n4 c4) (.slice A5 n5 c5),v,.int .i64 (frm:Int),.bool loop] w fun e w'=>e=.returned (.int .i64 r)∧Below w.heap.size w w':=by
 have hpos:0<args.length:=by omega
 obtain⟨⟨ka,opa,nna,sa,asa⟩,hea⟩:∃ e,args[0]? =some e:=⟨_,List.getElem?_eq_getElem (by omega)⟩
 have hgda:args.getD 0 xL=.mk ka opa nna sa asa:=by
  rw[List.getD_eq_getElem?_getD,hea];rfl
 have HOa:=hid (qV hok hea);have HR:=hid (show q7 p vars (.mk ka opa nna sa asa) ft=r by rw[←hr,qh];rw[if_neg (by decide),if_neg (by decide),if_neg (by decide),if_neg (by decide),if_pos (by decide),hgda]);clear h1;obtain⟨A0,c0,A1,c1,A2,c2,rfl,rfl,rfl⟩:=hE.form;obtain⟨A3,c3,rfl,_⟩:=hl.form;obtain⟨ga,oa,vaa,hAa,hga,ya0,ya1,ya2,ya3,ya4,hsla⟩:=hl.cells hea;subst hAa;rw[show oa+0 * 5=oa by omega]at ya0 ya1 ya2 ya3 ya4;obtain⟨Ba,qa,rfl,_⟩:=hsla.form;have hXa:vx B w (.mk ka opa nna sa asa) (.agg #[.int .i64 ka,.int .i64 opa,.int .i64 nna,.string sa,.slice Ba asa.length qa]):=⟨_,rfl,hl.range hea,hsla⟩
 have hgsa:ga<w.heap.size:=by have:=hE.hB;omega
 have hbl:=zB hb;have hw1:Below w.heap.size w (w.alloc (qC 8 ty name (.slice (some ⟨ga,oa,none⟩) args.length c3) (.slice A4 n4 c4) (.slice A5 n5 c5))):=Zb.alloc Zr _;have HW1:=hid hw1;have HE:=hid hE;have HE1:=hid (hE.below (hw1.mono hE.hB));have HED:=hid (hE.below (hw1.drew.mono hE.hB));have HB1:=hid ((hw1.block b hbl).trans hb);have HBD:=hid ((hw1.drew.block b hbl).trans hb);have HXa1:=hid (hXa.below (hw1.mono hE.hB) Zr);have HXaD:=hid (hXa.below (hw1.drew.mono hE.hB) Zr);have HP:=hid hp;obtain⟨⟨b0,b1,b2,b3,b4,b5,b6⟩,bz⟩:=zN hb;clear hE hb hl hok hp hr hw1 hea hgda hsla hXa;go_enter Tryz.func65,Tryz.ntmps65;go_wp2_with (fail)
 go_region_held3 (fun w'=>w'.cell? ⟨b,3,none⟩=some (.int .i64 ft)∧w'.cell? ⟨w.heap.size,3,none⟩=some (.slice (some ⟨ga,oa,none⟩) args.length c3)∧w'.cell? ⟨ga,oa,none⟩=some (.int .i64 ka)∧w'.cell? ⟨ga,oa+1,none⟩=some (.int .i64 opa)∧w'.cell? ⟨ga,oa+2,none⟩=some (.int .i64 nna)∧w'.cell? ⟨ga,oa+3,none⟩=some (.string sa)∧w'.cell? ⟨ga,oa+4,none⟩=some (.slice Ba asa.length qa))
  (first
    | (go_split_ands;refine⟨?_,?_,?_,?_,?_,?_,?_⟩ <;> (first | (rw[hq5];assumption) | (rw[hm5];simp;done) | (rw[hg5];assumption)))
    | go_keep)
  (first
    | (go_at_call 82
       (refine(jj B b p vars _ _ _ _ _ _ _ _ _ fs ft n (w.alloc (qC 8 ty name (.slice (some ⟨ga,oa,none⟩) args.length c3) (.slice A4 n4 c4) (.slice A5 n5 c5))).drew HED.out HBD.out HXaD.out HOa.out HP.out HR.out).mono ?_)
       rintro e w2 ⟨rfl,hb2⟩;have hw2:Below w.heap.size w w2:=HW1.out.trans (Zb.drew.trans (hb2.mono (by show w.heap.size≤(w.alloc _).heap.size;rw[zA];omega)));have hq5:∀ x,w2.cell? ⟨b,x,none⟩=w.cell? ⟨b,x,none⟩:=fun x=>hw2.cell (p:=⟨b,x,none⟩) hbl
       have hm5:∀ x,w2.cell? ⟨w.heap.size,x,none⟩=(w.alloc (qC 8 ty name (.slice (some ⟨ga,oa,none⟩) args.length c3) (.slice A4 n4 c4) (.slice A5 n5 c5))).cell? ⟨w.heap.size,x,none⟩:=fun x=>hb2.cell (p:=⟨w.heap.size,x,none⟩) (by show w.heap.size<(w.alloc _).heap.size;rw[zA];omega)
       have hg5:∀ x,w2.cell? ⟨ga,x,none⟩=w.cell? ⟨ga,x,none⟩:=fun x=>hw2.cell (p:=⟨ga,x,none⟩) hgsa
       have HW2:=hid hw2
       clear hb2 hw2))
 go_wp2_with (fail);go_ret;exact⟨rfl,HW2.out⟩
set_option maxHeartbeats 1600000 in
include hE hb hl hok hp hfr in
theorem rown_set_no (hv:z5 vars name=none) (hr:qh p ft 2 ty name args vars frm loop=r):Calls Tryz.prog 65 #[.pointer (some ⟨b,0,none⟩),stV 2 ty name v3 (.slice A4 n4 c4) (.slice A5 n5 c5),v,.int .i64 (frm:Int),.bool loop] w fun e w'=>e=.returned (.int .i64 r)∧Below w.heap.size w w':=by
 have HR:=hid (show (50 :Int)=r by rw[←hr,qh];rw[if_neg (by decide),if_pos (by decide),hv]);have HT:=hid (show (z5 vars name).getD 0=0 by rw[hv];rfl);have HVB:=hid (show (z5 vars name).isSome=false by rw[hv];rfl);clear hv;obtain⟨A0,c0,A1,c1,A2,c2,rfl,rfl,rfl⟩:=hE.form;obtain⟨A3,c3,rfl,_⟩:=hl.form;have hbl:=zB hb;have hw1:Below w.heap.size w (w.alloc (qC 2 ty name (.slice A3 args.length c3) (.slice A4 n4 c4) (.slice A5 n5 c5))):=Zb.alloc Zr _;have HW1:=hid hw1;have HE:=hid hE;have HE1:=hid (hE.below (hw1.mono hE.hB));have HED:=hid (hE.below (hw1.drew.mono hE.hB));have HB1:=hid ((hw1.block b hbl).trans hb);have HBD:=hid ((hw1.drew.block b hbl).trans hb);have HP:=hid hp;obtain⟨⟨b0,b1,b2,b3,b4,b5,b6⟩,bz⟩:=zN hb;clear hE hb hl hok hp hr hw1;go_enter Tryz.func65,Tryz.ntmps65;go_wp2_with (go_at_call 30;(with_reducible refine(jN B vars name _ _ HT.out HVB.out _ _ HE1.out.hB HE1.out.hv).mono ?_);rintro e w9 ⟨rfl,rfl⟩);go_ret;exact⟨zk HR.out,HW1.out⟩
set_option maxHeartbeats 1600000 in
include hE hb hl hok hp hfr in
theorem rown_set (t:Int) (hv:z5 vars name=some t) (h1:args.length=1) (hr:qh p ft 2 ty name args vars frm loop=r):Calls Tryz.prog 65 #[.pointer (some ⟨b,0,none⟩),stV 2 ty name v3 (.slice A4 n4 c4) (.slice A5 n5 c5),v,.int .i64 (frm:Int),.bool loop] w fun e w'=>e=.returned (.int .i64 r)∧Below w.heap.size w w':=by
 have hpos:0<args.length:=by omega
 obtain⟨⟨ka,opa,nna,sa,asa⟩,hea⟩:∃ e,args[0]? =some e:=⟨_,List.getElem?_eq_getElem (by omega)⟩
 have hgda:args.getD 0 xL=.mk ka opa nna sa asa:=by
  rw[List.getD_eq_getElem?_getD,hea];rfl
 have HOa:=hid (qV hok hea);have HR:=hid (show q7 p vars (.mk ka opa nna sa asa) t=r by rw[←hr,qh];rw[if_neg (by decide),if_pos (by decide),hv,hgda]);have HT:=hid (show (z5 vars name).getD 0=t by rw[hv];rfl);have HVB:=hid (show (z5 vars name).isSome=true by rw[hv];rfl);clear hv h1;obtain⟨A0,c0,A1,c1,A2,c2,rfl,rfl,rfl⟩:=hE.form;obtain⟨A3,c3,rfl,_⟩:=hl.form;obtain⟨ga,oa,vaa,hAa,hga,ya0,ya1,ya2,ya3,ya4,hsla⟩:=hl.cells hea;subst hAa;rw[show oa+0 * 5=oa by omega]at ya0 ya1 ya2 ya3 ya4;obtain⟨Ba,qa,rfl,_⟩:=hsla.form;have hXa:vx B w (.mk ka opa nna sa asa) (.agg #[.int .i64 ka,.int .i64 opa,.int .i64 nna,.string sa,.slice Ba asa.length qa]):=⟨_,rfl,hl.range hea,hsla⟩
 have hgsa:ga<w.heap.size:=by have:=hE.hB;omega
 have hbl:=zB hb;have hw1:Below w.heap.size w (w.alloc (qC 2 ty name (.slice (some ⟨ga,oa,none⟩) args.length c3) (.slice A4 n4 c4) (.slice A5 n5 c5))):=Zb.alloc Zr _;have HW1:=hid hw1;have HE:=hid hE;have HE1:=hid (hE.below (hw1.mono hE.hB));have HED:=hid (hE.below (hw1.drew.mono hE.hB));have HB1:=hid ((hw1.block b hbl).trans hb);have HBD:=hid ((hw1.drew.block b hbl).trans hb);have HXa1:=hid (hXa.below (hw1.mono hE.hB) Zr);have HXaD:=hid (hXa.below (hw1.drew.mono hE.hB) Zr);have HP:=hid hp;obtain⟨⟨b0,b1,b2,b3,b4,b5,b6⟩,bz⟩:=zN hb;clear hE hb hl hok hp hr hw1 hea hgda hsla hXa;go_enter Tryz.func65,Tryz.ntmps65
 go_wp2_with (first
  | (go_at_call 30;(with_reducible refine(jN B vars name _ _ HT.out HVB.out _ _ HE1.out.hB HE1.out.hv).mono ?_);rintro e w9 ⟨rfl,rfl⟩)
  | (go_at_call 82;(with_reducible refine(jj B b p vars _ _ _ _ _ _ _ _ _ fs ft n _ HE1.out HB1.out HXa1.out HOa.out HP.out HR.out).mono ?_);rintro e w2 ⟨rfl,hb2⟩))
 go_ret;exact⟨rfl,HW1.out.trans (hb2.mono (by rw[zA];omega))⟩
set_option maxHeartbeats 1600000 in
include hE hb hl hok hp hfr in
theorem rown_put_no (hk:qb p.arrays name=none) (hr:qh p ft 3 ty name args vars frm loop=r):Calls Tryz.prog 65 #[.pointer (some ⟨b,0,none⟩),stV 3 ty name v3 (.slice A4 n4 c4) (.slice A5 n5 c5),v,.int .i64 (frm:Int),.bool loop] w fun e w'=>e=.returned (.int .i64 r)∧Below w.heap.size w w':=by
 have HR:=hid (show (50 :Int)=r by rw[←hr,qh];rw[if_neg (by decide),if_neg (by decide),if_pos (by decide),hk];rfl);have HK:=hid (show jY (qb p.arrays name)= -1 by rw[hk];rfl);clear hk;obtain⟨A0,c0,A1,c1,A2,c2,rfl,rfl,rfl⟩:=hE.form;obtain⟨A3,c3,rfl,_⟩:=hl.form;have hbl:=zB hb;have hw1:Below w.heap.size w (w.alloc (qC 3 ty name (.slice A3 args.length c3) (.slice A4 n4 c4) (.slice A5 n5 c5))):=Zb.alloc Zr _;have HW1:=hid hw1;have HE:=hid hE;have HE1:=hid (hE.below (hw1.mono hE.hB));have HED:=hid (hE.below (hw1.drew.mono hE.hB));have HB1:=hid ((hw1.block b hbl).trans hb);have HBD:=hid ((hw1.drew.block b hbl).trans hb);have HP:=hid hp;obtain⟨⟨b0,b1,b2,b3,b4,b5,b6⟩,bz⟩:=zN hb;clear hE hb hl hok hp hr hw1;go_enter Tryz.func65,Tryz.ntmps65;go_wp2_with (fail)
 go_region_held3 (fun w'=>w'.cell? ⟨b,0,none⟩=some (.slice A0 p.arrays.length c0)∧w'.cell? ⟨b,1,none⟩=some (.slice A1 p.funcs.length c1)∧w'.cell? ⟨w.heap.size,2,none⟩=some (.string name))
  (first
    | (go_split_ands;refine⟨?_,?_,?_⟩ <;> (first | (rw[hq5];assumption) | (rw[hm5];simp;done)))
    | go_keep)
  (first
    | (go_at_call 63
       (refine(kl B p name _ HK.out _ _ (w.alloc (qC 3 ty name (.slice A3 args.length c3) (.slice A4 n4 c4) (.slice A5 n5 c5))).drew HED.out.hB HED.out.ha HED.out.hf).mono ?_)
       rintro e w2 ⟨rfl,hb2⟩;have hw2:Below w.heap.size w w2:=HW1.out.trans (Zb.drew.trans (hb2.mono (by show w.heap.size≤(w.alloc _).heap.size;rw[zA];omega)));have hq5:∀ x,w2.cell? ⟨b,x,none⟩=w.cell? ⟨b,x,none⟩:=fun x=>hw2.cell (p:=⟨b,x,none⟩) hbl
       have hm5:∀ x,w2.cell? ⟨w.heap.size,x,none⟩=(w.alloc (qC 3 ty name (.slice A3 args.length c3) (.slice A4 n4 c4) (.slice A5 n5 c5))).cell? ⟨w.heap.size,x,none⟩:=fun x=>hb2.cell (p:=⟨w.heap.size,x,none⟩) (by show w.heap.size<(w.alloc _).heap.size;rw[zA];omega)
       have HW2:=hid hw2
       clear hb2 hw2))
 go_wp2_with (fail);go_ret;exact⟨zk HR.out,HW2.out⟩
set_option maxHeartbeats 1600000 in
include hE hb hl hok hp hfr in
theorem rown_put (k:Nat) (hk:qb p.arrays name=some k) (h1:args.length=2) (hr:qh p ft 3 ty name args vars frm loop=r):Calls Tryz.prog 65 #[.pointer (some ⟨b,0,none⟩),stV 3 ty name v3 (.slice A4 n4 c4) (.slice A5 n5 c5),v,.int .i64 (frm:Int),.bool loop] w fun e w'=>e=.returned (.int .i64 r)∧Below w.heap.size w w':=by
 have hpos:0<args.length:=by omega
 have hpos1:1<args.length:=by omega
 obtain⟨⟨ka,opa,nna,sa,asa⟩,hea⟩:∃ e,args[0]? =some e:=⟨_,List.getElem?_eq_getElem (by omega)⟩
 have hgda:args.getD 0 xL=.mk ka opa nna sa asa:=by
  rw[List.getD_eq_getElem?_getD,hea];rfl
 have HOa:=hid (qV hok hea);obtain⟨⟨kc,opc,nnc,sc,asc⟩,hec⟩:∃ e,args[1]? =some e:=⟨_,List.getElem?_eq_getElem (by omega)⟩
 have hgdc:args.getD 1 xL=.mk kc opc nnc sc asc:=by
  rw[List.getD_eq_getElem?_getD,hec];rfl
 have HOc:=hid (qV hok hec);have HR:=hid (show (if q7 p vars (.mk ka opa nna sa asa) 1=0 then q7 p vars (.mk kc opc nnc sc asc) 1 else q7 p vars (.mk ka opa nna sa asa) 1)=r by have h:=hr;rw[qh,if_neg (by decide),if_neg (by decide),if_pos (by decide),hk,if_pos (by rfl),hgda,hgdc]at h;exact h);have HK:=hid (show jY (qb p.arrays name)=(k:Int) by rw[hk];rfl);clear hk h1;obtain⟨A0,c0,A1,c1,A2,c2,rfl,rfl,rfl⟩:=hE.form;obtain⟨A3,c3,rfl,_⟩:=hl.form;obtain⟨ga,oa,vaa,hAa,hga,ya0,ya1,ya2,ya3,ya4,hsla⟩:=hl.cells hea;subst hAa;rw[show oa+0 * 5=oa by omega]at ya0 ya1 ya2 ya3 ya4;obtain⟨Ba,qa,rfl,_⟩:=hsla.form;have hXa:vx B w (.mk ka opa nna sa asa) (.agg #[.int .i64 ka,.int .i64 opa,.int .i64 nna,.string sa,.slice Ba asa.length qa]):=⟨_,rfl,hl.range hea,hsla⟩
 have hgsa:ga<w.heap.size:=by have:=hE.hB;omega
 obtain⟨gc,oc,vac,hAc,hgc,yc0,yc1,yc2,yc3,yc4,hslc⟩:=hl.cells hec;obtain⟨rfl,rfl⟩:ga=gc∧oa=oc:=by injection hAc with hAc;injection hAc with h1 h2 _;exact⟨h1,h2⟩
 rw[show oa+1 * 5=oa+5 by omega]at yc0 yc1 yc2 yc3 yc4;obtain⟨Bc,qc,rfl,_⟩:=hslc.form;have hXc:vx B w (.mk kc opc nnc sc asc) (.agg #[.int .i64 kc,.int .i64 opc,.int .i64 nnc,.string sc,.slice Bc asc.length qc]):=⟨_,rfl,hl.range hec,hslc⟩
 have hbl:=zB hb;have hw1:Below w.heap.size w (w.alloc (qC 3 ty name (.slice (some ⟨ga,oa,none⟩) args.length c3) (.slice A4 n4 c4) (.slice A5 n5 c5))):=Zb.alloc Zr _;have HW1:=hid hw1;have HE:=hid hE;have HE1:=hid (hE.below (hw1.mono hE.hB));have HED:=hid (hE.below (hw1.drew.mono hE.hB));have HB1:=hid ((hw1.block b hbl).trans hb);have HBD:=hid ((hw1.drew.block b hbl).trans hb);have HXa1:=hid (hXa.below (hw1.mono hE.hB) Zr);have HXaD:=hid (hXa.below (hw1.drew.mono hE.hB) Zr);have HXc1:=hid (hXc.below (hw1.mono hE.hB) Zr);have HXcD:=hid (hXc.below (hw1.drew.mono hE.hB) Zr);have HP:=hid hp;obtain⟨⟨b0,b1,b2,b3,b4,b5,b6⟩,bz⟩:=zN hb;clear hE hb hl hok hp hr hw1 hea hgda hsla hXa hec hgdc hslc hXc;go_enter Tryz.func65,Tryz.ntmps65;obtain⟨ra,hra⟩:∃ z,q7 p vars (.mk ka opa nna sa asa) 1=z:=⟨_,rfl⟩
 obtain⟨rc,hrc⟩:∃ z,q7 p vars (.mk kc opc nnc sc asc) 1=z:=⟨_,rfl⟩
 have HRA:=hid hra;have HRC:=hid hrc;have HRR:=hid (show (if ra=0 then rc else ra)=r by rw[←hra,←hrc];exact HR.out);clear hra hrc;go_wp2_with (fail)
 go_region_held3 (fun w'=>w'.cell? ⟨b,0,none⟩=some (.slice A0 p.arrays.length c0)∧w'.cell? ⟨b,1,none⟩=some (.slice A1 p.funcs.length c1)∧w'.cell? ⟨w.heap.size,2,none⟩=some (.string name))
  (first
    | (go_split_ands;refine⟨?_,?_,?_⟩ <;> (first | (rw[hq5];assumption) | (rw[hm5];simp;done)))
    | go_keep)
  (first
    | (go_at_call 63
       (refine(kl B p name _ HK.out _ _ (w.alloc (qC 3 ty name (.slice (some ⟨ga,oa,none⟩) args.length c3) (.slice A4 n4 c4) (.slice A5 n5 c5))).drew HED.out.hB HED.out.ha HED.out.hf).mono ?_)
       rintro e w2 ⟨rfl,hb2⟩;have hw2:Below w.heap.size w w2:=HW1.out.trans (Zb.drew.trans (hb2.mono (by show w.heap.size≤(w.alloc _).heap.size;rw[zA];omega)));have hq5:∀ x,w2.cell? ⟨b,x,none⟩=w.cell? ⟨b,x,none⟩:=fun x=>hw2.cell (p:=⟨b,x,none⟩) hbl
       have hm5:∀ x,w2.cell? ⟨w.heap.size,x,none⟩=(w.alloc (qC 3 ty name (.slice (some ⟨ga,oa,none⟩) args.length c3) (.slice A4 n4 c4) (.slice A5 n5 c5))).cell? ⟨w.heap.size,x,none⟩:=fun x=>hb2.cell (p:=⟨w.heap.size,x,none⟩) (by show w.heap.size<(w.alloc _).heap.size;rw[zA];omega)
       have hm3:w2.cell? ⟨w.heap.size,3,none⟩=some (.slice (some ⟨ga,oa,none⟩) args.length c3):=by rw[hm5];simp
       have hs2:w.heap.size<w2.heap.size:=by have:=hb2.size;simp at this;omega
       have HWD:=hid (show Below w.heap.size ((w.alloc (qC 3 ty name (.slice (some ⟨ga,oa,none⟩) args.length c3) (.slice A4 n4 c4) (.slice A5 n5 c5))).drew) w2 from hb2.mono (by show w.heap.size≤(w.alloc _).heap.size;rw[zA];omega));have HB2:=hid ((hw2.block b hbl).trans ((HW1.out.block b hbl).symm.trans HB1.out));have hg5:∀ x,w2.cell? ⟨ga,x,none⟩=w.cell? ⟨ga,x,none⟩:=fun x=>hw2.cell (p:=⟨ga,x,none⟩) hgsa
       have HW2:=hid hw2
       clear hb2 hw2))
 have HE2:=hid (HED.out.below (HWD.out.mono HE.out.hB));have HXa2:=hid (HXaD.out.below (HWD.out.mono HE.out.hB) Zr);have HXc2:=hid (HXcD.out.below (HWD.out.mono HE.out.hB) Zr);have z0:=(hg5 _).trans ya0;have z1:=(hg5 _).trans ya1;have z2:=(hg5 _).trans ya2;have z3:=(hg5 _).trans ya3;have z4:=(hg5 _).trans ya4;have x0:=(hg5 _).trans yc0;have x1:=(hg5 _).trans yc1;have x2:=(hg5 _).trans yc2;have x3:=(hg5 _).trans yc3;have x4:=(hg5 _).trans yc4;have hgs2:ga<w2.heap.size:=by have:=HW2.out.size;omega
 by_cases hra0:ra=0
 · subst hra0
   go_wp2_with (first
    | (go_at_call 82;(with_reducible refine(jj B b p vars _ _ _ _ _ _ _ _ _ fs ft n _ HE2.out HB2.out HXa2.out HOa.out HP.out HRA.out).mono ?_);rintro e w3 ⟨rfl,hb3⟩
       have hm33:w3.cell? ⟨w.heap.size,3,none⟩=some (.slice (some ⟨ga,oa,none⟩) args.length c3):=(hb3.cell (p:=⟨w.heap.size,3,none⟩) hs2).trans hm3;have hs3:w.heap.size<w3.heap.size:=by have:=hb3.size;omega
       have hgs3:ga<w3.heap.size:=by have:=hb3.size;omega
       have x0':=(hb3.cell (p:=⟨ga,_,none⟩) hgs2).trans x0;have x1':=(hb3.cell (p:=⟨ga,_,none⟩) hgs2).trans x1;have x2':=(hb3.cell (p:=⟨ga,_,none⟩) hgs2).trans x2;have x3':=(hb3.cell (p:=⟨ga,_,none⟩) hgs2).trans x3;have x4':=(hb3.cell (p:=⟨ga,_,none⟩) hgs2).trans x4;have HE3:=hid (HE2.out.below (hb3.mono HE2.out.hB));have HB3:=hid ((hb3.block b (zB HB2.out)).trans HB2.out);have HXc3:=hid (HXc2.out.below (hb3.mono HE2.out.hB) Zr);have HW3:=hid (HW2.out.trans (hb3.mono HW2.out.size))
       clear hb3)
    | (go_at_call 82;(with_reducible refine(jj B b p vars _ _ _ _ _ _ _ _ _ fs ft n _ HE3.out HB3.out HXc3.out HOc.out HP.out HRC.out).mono ?_);rintro e w4 ⟨rfl,hb4⟩))
   go_ret;exact⟨zk (by rw[←HRR.out];rfl),HW3.out.trans (hb4.mono HW3.out.size)⟩
 · go_wp2_with (first
    | (go_at_call 82;(with_reducible refine(jj B b p vars _ _ _ _ _ _ _ _ _ fs ft n _ HE2.out HB2.out HXa2.out HOa.out HP.out HRA.out).mono ?_);rintro e w3 ⟨rfl,hb3⟩
       have hm33:w3.cell? ⟨w.heap.size,3,none⟩=some (.slice (some ⟨ga,oa,none⟩) args.length c3):=(hb3.cell (p:=⟨w.heap.size,3,none⟩) hs2).trans hm3;have hs3:w.heap.size<w3.heap.size:=by have:=hb3.size;omega
       have hgs3:ga<w3.heap.size:=by have:=hb3.size;omega
       have x0':=(hb3.cell (p:=⟨ga,_,none⟩) hgs2).trans x0;have x1':=(hb3.cell (p:=⟨ga,_,none⟩) hgs2).trans x1;have x2':=(hb3.cell (p:=⟨ga,_,none⟩) hgs2).trans x2;have x3':=(hb3.cell (p:=⟨ga,_,none⟩) hgs2).trans x3;have x4':=(hb3.cell (p:=⟨ga,_,none⟩) hgs2).trans x4;have HE3:=hid (HE2.out.below (hb3.mono HE2.out.hB));have HB3:=hid ((hb3.block b (zB HB2.out)).trans HB2.out);have HXc3:=hid (HXc2.out.below (hb3.mono HE2.out.hB) Zr);have HW3:=hid (HW2.out.trans (hb3.mono HW2.out.size))
       clear hb3))
   go_ret;exact⟨zk (by rw[←HRR.out,if_neg hra0]),HW3.out⟩
set_option maxHeartbeats 1600000 in
include hE hb hl hok hp hfr in
theorem rown_do (h1:args.length=1) (hr:qh p ft 10 ty name args vars frm loop=r):Calls Tryz.prog 65 #[.pointer (some ⟨b,0,none⟩),stV 10 ty name v3 (.slice A4 n4 c4) (.slice A5 n5 c5),v,.int .i64 (frm:Int),.bool loop] w fun e w'=>e=.returned (.int .i64 r)∧Below w.heap.size w w':=by
 have hpos:0<args.length:=by omega
 obtain⟨⟨ka,opa,nna,sa,asa⟩,hea⟩:∃ e,args[0]? =some e:=⟨_,List.getElem?_eq_getElem (by omega)⟩
 have hgda:args.getD 0 xL=.mk ka opa nna sa asa:=by
  rw[List.getD_eq_getElem?_getD,hea];rfl
 have HOa:=hid (qV hok hea);have HR:=hid (show (qI p vars (.mk ka opa nna sa asa)).2=r by rw[←hr,qh];rw[if_neg (by decide),if_neg (by decide),if_neg (by decide),if_neg (by decide),if_neg (by decide),if_neg (by decide),if_pos (by decide),hgda]);clear h1;obtain⟨A0,c0,A1,c1,A2,c2,rfl,rfl,rfl⟩:=hE.form;obtain⟨A3,c3,rfl,_⟩:=hl.form;obtain⟨ga,oa,vaa,hAa,hga,ya0,ya1,ya2,ya3,ya4,hsla⟩:=hl.cells hea;subst hAa;rw[show oa+0 * 5=oa by omega]at ya0 ya1 ya2 ya3 ya4;obtain⟨Ba,qa,rfl,_⟩:=hsla.form;have hXa:vx B w (.mk ka opa nna sa asa) (.agg #[.int .i64 ka,.int .i64 opa,.int .i64 nna,.string sa,.slice Ba asa.length qa]):=⟨_,rfl,hl.range hea,hsla⟩
 have hgsa:ga<w.heap.size:=by have:=hE.hB;omega
 have hbl:=zB hb;have hw1:Below w.heap.size w (w.alloc (qC 10 ty name (.slice (some ⟨ga,oa,none⟩) args.length c3) (.slice A4 n4 c4) (.slice A5 n5 c5))):=Zb.alloc Zr _;have HW1:=hid hw1;have HE:=hid hE;have HE1:=hid (hE.below (hw1.mono hE.hB));have HED:=hid (hE.below (hw1.drew.mono hE.hB));have HB1:=hid ((hw1.block b hbl).trans hb);have HBD:=hid ((hw1.drew.block b hbl).trans hb);have HXa1:=hid (hXa.below (hw1.mono hE.hB) Zr);have HXaD:=hid (hXa.below (hw1.drew.mono hE.hB) Zr);have HP:=hid hp;obtain⟨⟨b0,b1,b2,b3,b4,b5,b6⟩,bz⟩:=zN hb;clear hE hb hl hok hp hr hw1 hea hgda hsla hXa;go_enter Tryz.func65,Tryz.ntmps65;obtain⟨⟨t,f⟩,htf⟩:∃ r,qI p vars (.mk ka opa nna sa asa)=r:=⟨_,rfl⟩
 have HTF:=hid htf;have HRF:=hid (show f=r by rw[←HR.out,htf]);clear htf;go_wp2_with (fail)
 go_region_held3 (fun w'=>w'.cell? ⟨b,0,none⟩=some (.slice A0 p.arrays.length c0)∧w'.cell? ⟨b,1,none⟩=some (.slice A1 p.funcs.length c1)∧w'.cell? ⟨w.heap.size,3,none⟩=some (.slice (some ⟨ga,oa,none⟩) args.length c3)∧w'.cell? ⟨ga,oa,none⟩=some (.int .i64 ka)∧w'.cell? ⟨ga,oa+1,none⟩=some (.int .i64 opa)∧w'.cell? ⟨ga,oa+2,none⟩=some (.int .i64 nna)∧w'.cell? ⟨ga,oa+3,none⟩=some (.string sa)∧w'.cell? ⟨ga,oa+4,none⟩=some (.slice Ba asa.length qa))
  (first
    | (go_split_ands;refine⟨?_,?_,?_,?_,?_,?_,?_,?_⟩ <;> (first | (rw[hq5];assumption) | (rw[hm5];simp;done) | (rw[hg5];assumption)))
    | go_keep)
  (first
    | (go_at_call 83
       (refine((rtype_all 100).call (w:=(w.alloc (qC 10 ty name (.slice (some ⟨ga,oa,none⟩) args.length c3) (.slice A4 n4 c4) (.slice A5 n5 c5))).drew) HOa.out HP.out HTF.out HED.out HXaD.out).mono ?_)
       rintro e w2 ⟨rfl,hb2⟩;have hw2:Below w.heap.size w w2:=HW1.out.trans (Zb.drew.trans (hb2.mono (by show w.heap.size≤(w.alloc _).heap.size;rw[zA];omega)));have hq5:∀ x,w2.cell? ⟨b,x,none⟩=w.cell? ⟨b,x,none⟩:=fun x=>hw2.cell (p:=⟨b,x,none⟩) hbl
       have hm5:∀ x,w2.cell? ⟨w.heap.size,x,none⟩=(w.alloc (qC 10 ty name (.slice (some ⟨ga,oa,none⟩) args.length c3) (.slice A4 n4 c4) (.slice A5 n5 c5))).cell? ⟨w.heap.size,x,none⟩:=fun x=>hb2.cell (p:=⟨w.heap.size,x,none⟩) (by show w.heap.size<(w.alloc _).heap.size;rw[zA];omega)
       have hg5:∀ x,w2.cell? ⟨ga,x,none⟩=w.cell? ⟨ga,x,none⟩:=fun x=>hw2.cell (p:=⟨ga,x,none⟩) hgsa
       have HW2:=hid hw2
       clear hb2 hw2))
 go_wp2_with (fail);go_ret;exact⟨zk HRF.out,HW2.out⟩
set_option maxHeartbeats 1600000 in
include hE hb hl hok hp hfr in
theorem rown_break (hr:qh p ft 6 ty name args vars frm loop=r):Calls Tryz.prog 65 #[.pointer (some ⟨b,0,none⟩),stV 6 ty name v3 (.slice A4 n4 c4) (.slice A5 n5 c5),v,.int .i64 (frm:Int),.bool loop] w fun e w'=>e=.returned (.int .i64 r)∧Below w.heap.size w w':=by
 have HR:=hid (show (if loop=true then 0 else 53 :Int)=r by have h:=hr;rw[qh,if_neg (by decide),if_neg (by decide),if_neg (by decide),if_neg (by decide),if_neg (by decide),if_neg (by decide),if_neg (by decide)]at h;exact h);obtain⟨A0,c0,A1,c1,A2,c2,rfl,rfl,rfl⟩:=hE.form;obtain⟨A3,c3,rfl,_⟩:=hl.form;have hbl:=zB hb;have hw1:Below w.heap.size w (w.alloc (qC 6 ty name (.slice A3 args.length c3) (.slice A4 n4 c4) (.slice A5 n5 c5))):=Zb.alloc Zr _;have HW1:=hid hw1;have HE:=hid hE;have HE1:=hid (hE.below (hw1.mono hE.hB));have HED:=hid (hE.below (hw1.drew.mono hE.hB));have HB1:=hid ((hw1.block b hbl).trans hb);have HBD:=hid ((hw1.drew.block b hbl).trans hb);have HP:=hid hp;obtain⟨⟨b0,b1,b2,b3,b4,b5,b6⟩,bz⟩:=zN hb;clear hE hb hl hok hp hr hw1;go_enter Tryz.func65,Tryz.ntmps65;cases loop
 all_goals
  go_wp2_with (fail);go_ret;exact⟨zk (by rw[←HR.out];rfl),HW1.out⟩
set_option maxHeartbeats 1600000 in
include hE hb hl hok hp hfr in
theorem rown_continue (hr:qh p ft 7 ty name args vars frm loop=r):Calls Tryz.prog 65 #[.pointer (some ⟨b,0,none⟩),stV 7 ty name v3 (.slice A4 n4 c4) (.slice A5 n5 c5),v,.int .i64 (frm:Int),.bool loop] w fun e w'=>e=.returned (.int .i64 r)∧Below w.heap.size w w':=by
 have HR:=hid (show (if loop=true then 0 else 53 :Int)=r by have h:=hr;rw[qh,if_neg (by decide),if_neg (by decide),if_neg (by decide),if_neg (by decide),if_neg (by decide),if_neg (by decide),if_neg (by decide)]at h;exact h);obtain⟨A0,c0,A1,c1,A2,c2,rfl,rfl,rfl⟩:=hE.form;obtain⟨A3,c3,rfl,_⟩:=hl.form;have hbl:=zB hb;have hw1:Below w.heap.size w (w.alloc (qC 7 ty name (.slice A3 args.length c3) (.slice A4 n4 c4) (.slice A5 n5 c5))):=Zb.alloc Zr _;have HW1:=hid hw1;have HE:=hid hE;have HE1:=hid (hE.below (hw1.mono hE.hB));have HED:=hid (hE.below (hw1.drew.mono hE.hB));have HB1:=hid ((hw1.block b hbl).trans hb);have HBD:=hid ((hw1.drew.block b hbl).trans hb);have HP:=hid hp;obtain⟨⟨b0,b1,b2,b3,b4,b5,b6⟩,bz⟩:=zN hb;clear hE hb hl hok hp hr hw1;go_enter Tryz.func65,Tryz.ntmps65;cases loop
 all_goals
  go_wp2_with (fail);go_ret;exact⟨zk (by rw[←HR.out];rfl),HW1.out⟩
set_option maxHeartbeats 1600000 in
include hE hb hl hok hp hfr in
theorem rown_let (h1:args.length=1) (hr:qh p ft 1 ty name args vars frm loop=r):Calls Tryz.prog 65 #[.pointer (some ⟨b,0,none⟩),stV 1 ty name v3 (.slice A4 n4 c4) (.slice A5 n5 c5),v,.int .i64 (frm:Int),.bool loop] w fun e w'=>e=.returned (.int .i64 r)∧Below w.heap.size w w':=by
 have hpos:0<args.length:=by omega
 obtain⟨⟨ka,opa,nna,sa,asa⟩,hea⟩:∃ e,args[0]? =some e:=⟨_,List.getElem?_eq_getElem (by omega)⟩
 have hgda:args.getD 0 xL=.mk ka opa nna sa asa:=by
  rw[List.getD_eq_getElem?_getD,hea];rfl
 have HOa:=hid (qV hok hea);have HR:=hid (show (if q7 p vars (.mk ka opa nna sa asa) ty=0 then (if (z5 (vars.drop frm) name).isSome then 50 else 0) else q7 p vars (.mk ka opa nna sa asa) ty)=r by have h:=hr;rw[qh,if_pos (by decide),hgda]at h;exact h);clear h1;obtain⟨A0,c0,A1,c1,A2,c2,rfl,rfl,rfl⟩:=hE.form;obtain⟨A3,c3,rfl,_⟩:=hl.form;obtain⟨ga,oa,vaa,hAa,hga,ya0,ya1,ya2,ya3,ya4,hsla⟩:=hl.cells hea;subst hAa;rw[show oa+0 * 5=oa by omega]at ya0 ya1 ya2 ya3 ya4;obtain⟨Ba,qa,rfl,_⟩:=hsla.form;have hXa:vx B w (.mk ka opa nna sa asa) (.agg #[.int .i64 ka,.int .i64 opa,.int .i64 nna,.string sa,.slice Ba asa.length qa]):=⟨_,rfl,hl.range hea,hsla⟩
 have hgsa:ga<w.heap.size:=by have:=hE.hB;omega
 have hbl:=zB hb;have hw1:Below w.heap.size w (w.alloc (qC 1 ty name (.slice (some ⟨ga,oa,none⟩) args.length c3) (.slice A4 n4 c4) (.slice A5 n5 c5))):=Zb.alloc Zr _;have HW1:=hid hw1;have HE:=hid hE;have HE1:=hid (hE.below (hw1.mono hE.hB));have HED:=hid (hE.below (hw1.drew.mono hE.hB));have HB1:=hid ((hw1.block b hbl).trans hb);have HBD:=hid ((hw1.drew.block b hbl).trans hb);have HXa1:=hid (hXa.below (hw1.mono hE.hB) Zr);have HXaD:=hid (hXa.below (hw1.drew.mono hE.hB) Zr);have HP:=hid hp;obtain⟨⟨b0,b1,b2,b3,b4,b5,b6⟩,bz⟩:=zN hb;clear hE hb hl hok hp hr hw1 hea hgda hsla hXa;go_enter Tryz.func65,Tryz.ntmps65;obtain⟨ra,hra⟩:∃ z,q7 p vars (.mk ka opa nna sa asa) ty=z:=⟨_,rfl⟩
 have HRA:=hid hra;obtain⟨t9,ht9⟩:∃ z,(z5 (vars.drop frm) name).getD 0=z:=⟨_,rfl⟩
 obtain⟨b9,hb9⟩:∃ z,(z5 (vars.drop frm) name).isSome=z:=⟨_,rfl⟩
 have HT9:=hid ht9;have HB9:=hid hb9;have HRR:=hid (show (if ra=0 then (if b9=true then 50 else 0) else ra)=r by rw[←hra,←hb9];exact HR.out);clear hra ht9 hb9;have hvs:=HE.out.hv;go_wp2_with (fail)
 go_region_held3 (fun w'=>w'.cell? ⟨w.heap.size,3,none⟩=some (.slice (some ⟨ga,oa,none⟩) args.length c3)∧w'.cell? ⟨w.heap.size,1,none⟩=some (.int .i64 ty)∧w'.cell? ⟨ga,oa,none⟩=some (.int .i64 ka)∧w'.cell? ⟨ga,oa+1,none⟩=some (.int .i64 opa)∧w'.cell? ⟨ga,oa+2,none⟩=some (.int .i64 nna)∧w'.cell? ⟨ga,oa+3,none⟩=some (.string sa)∧w'.cell? ⟨ga,oa+4,none⟩=some (.slice Ba asa.length qa))
  (first
    | (go_split_ands;refine⟨?_,?_,?_,?_,?_,?_,?_⟩ <;> (first | (rw[hq5];assumption) | (rw[hm5];simp;done) | (rw[hg5];assumption)))
    | go_keep)
  (first
    | (go_at_call 82
       (refine(jj B b p vars _ _ _ _ _ _ _ _ _ fs ft n (w.alloc (qC 1 ty name (.slice (some ⟨ga,oa,none⟩) args.length c3) (.slice A4 n4 c4) (.slice A5 n5 c5))).drew HED.out HBD.out HXaD.out HOa.out HP.out HRA.out).mono ?_)
       rintro e w2 ⟨rfl,hb2⟩;have hw2:Below w.heap.size w w2:=HW1.out.trans (Zb.drew.trans (hb2.mono (by show w.heap.size≤(w.alloc _).heap.size;rw[zA];omega)));have hq5:∀ x,w2.cell? ⟨b,x,none⟩=w.cell? ⟨b,x,none⟩:=fun x=>hw2.cell (p:=⟨b,x,none⟩) hbl
       have hm5:∀ x,w2.cell? ⟨w.heap.size,x,none⟩=(w.alloc (qC 1 ty name (.slice (some ⟨ga,oa,none⟩) args.length c3) (.slice A4 n4 c4) (.slice A5 n5 c5))).cell? ⟨w.heap.size,x,none⟩:=fun x=>hb2.cell (p:=⟨w.heap.size,x,none⟩) (by show w.heap.size<(w.alloc _).heap.size;rw[zA];omega)
       have hm2:w2.cell? ⟨w.heap.size,2,none⟩=some (.string name):=by rw[hm5];simp
       have hs2:w.heap.size<w2.heap.size:=by have:=hb2.size;simp at this;omega
       have HWD:=hid (show Below w.heap.size ((w.alloc (qC 1 ty name (.slice (some ⟨ga,oa,none⟩) args.length c3) (.slice A4 n4 c4) (.slice A5 n5 c5))).drew) w2 from hb2.mono (by show w.heap.size≤(w.alloc _).heap.size;rw[zA];omega));have hg5:∀ x,w2.cell? ⟨ga,x,none⟩=w.cell? ⟨ga,x,none⟩:=fun x=>hw2.cell (p:=⟨ga,x,none⟩) hgsa
       have HW2:=hid hw2
       clear hb2 hw2))
 have hvs2:=HED.out.hv.below (HWD.out.mono HE.out.hB) Zr;have HVD:=hid (fun n=>(hvs2.dropS frm hfr).below (show Below B w2 (w2.drewN n) from Zb.trans ⟨rfl,rfl,rfl,Nat.le_refl _,fun _ _=>rfl⟩) Zr);have hB2:B≤w2.heap.size:=Nat.le_trans HE.out.hB HW2.out.size;clear hvs2 hvs;by_cases hra0:ra=0
 · subst hra0
   cases b9
   all_goals
    go_wp2_with (fail)
    go_quiet ((go_at_call 30;exact(jN B (vars.drop frm) name t9 _ HT9.out HB9.out _ _ (by exact hB2) (HVD.out _)).mono fun e w' h=>⟨h.1,_,h.2.symm⟩))
    go_wp2_with (fail)
    all_goals go_ret
    all_goals exact⟨zk (by rw[←HRR.out];rfl),bdN HW2.out _⟩
 · cases b9
   all_goals
    go_wp2_with (fail)
    go_quiet ((go_at_call 30;exact(jN B (vars.drop frm) name t9 _ HT9.out HB9.out _ _ (by exact hB2) (HVD.out _)).mono fun e w' h=>⟨h.1,_,h.2.symm⟩))
    have nra:(ra == 0)=false:=by simp[hra0]
    go_wp2_with (fail)
    all_goals go_ret
    all_goals exact⟨zk (by rw[←HRR.out,if_neg hra0]),bdN HW2.out _⟩
theorem jO (k:Int) (ic:Bool) (hf:zZ k ty name args.length n4 n5 ic=true) (hr:qh p ft k ty name args vars frm loop=r) (hE:REnv B p vars v0 v1 v w) (hb:w.heap[b]? =some (rckO v0 v1 fs ft v2 vb n)) (hl:qw B w v3 args) (hok:zr args 100=true) (hp:ui p) (hfr:frm≤vars.length):
 Calls Tryz.prog 65 #[.pointer (some ⟨b,0,none⟩),stV k ty name v3 (.slice A4 n4 c4) (.slice A5 n5 c5),v,.int .i64 (frm:Int),.bool loop] w fun e w'=>e=.returned (.int .i64 r)∧Below w.heap.size w w':=by
 rcases formS_ten hf with rfl | rfl | rfl | rfl | rfl | rfl | rfl | rfl | rfl | rfl
 · exact rown_let B b p vars ty name args frm loop A4 n4 c4 A5 n5 c5 r v3 v0 v1 v v2 vb fs ft n w hE hb hl hok hp hfr (by simp[zZ]at hf;exact hf.1.1.2) hr
 · cases hv:z5 vars name with
   | none=>exact rown_set_no B b p vars ty name args frm loop A4 n4 c4 A5 n5 c5 r v3 v0 v1 v v2 vb fs ft n w hE hb hl hok hp hfr hv hr
   | some t=>exact rown_set B b p vars ty name args frm loop A4 n4 c4 A5 n5 c5 r v3 v0 v1 v v2 vb fs ft n w hE hb hl hok hp hfr t hv (by simp[zZ]at hf;exact hf.1.1.2) hr
 · cases hv:qb p.arrays name with
   | none=>exact rown_put_no B b p vars ty name args frm loop A4 n4 c4 A5 n5 c5 r v3 v0 v1 v v2 vb fs ft n w hE hb hl hok hp hfr hv hr
   | some t=>exact rown_put B b p vars ty name args frm loop A4 n4 c4 A5 n5 c5 r v3 v0 v1 v v2 vb fs ft n w hE hb hl hok hp hfr t hv (by simp[zZ]at hf;exact hf.1.1.2) hr
 · exact rown_if B b p vars ty name args frm loop A4 n4 c4 A5 n5 c5 r v3 v0 v1 v v2 vb fs ft n w hE hb hl hok hp hfr (by simp[zZ]at hf;exact hf.2) hr
 · exact rown_while B b p vars ty name args frm loop A4 n4 c4 A5 n5 c5 r v3 v0 v1 v v2 vb fs ft n w hE hb hl hok hp hfr (by simp[zZ]at hf;exact hf.1.2) hr
 · exact rown_break B b p vars ty name args frm loop A4 n4 c4 A5 n5 c5 r v3 v0 v1 v v2 vb fs ft n w hE hb hl hok hp hfr hr
 · exact rown_continue B b p vars ty name args frm loop A4 n4 c4 A5 n5 c5 r v3 v0 v1 v v2 vb fs ft n w hE hb hl hok hp hfr hr
 · exact rown_return B b p vars ty name args frm loop A4 n4 c4 A5 n5 c5 r v3 v0 v1 v v2 vb fs ft n w hE hb hl hok hp hfr (by simp[zZ]at hf;exact hf.1.1.2) hr
 · exact rown_print B b p vars ty name args frm loop A4 n4 c4 A5 n5 c5 r v3 v0 v1 v v2 vb fs ft n w hE hb hl hok hp hfr (by simp[zZ]at hf;exact hf.1.1.2) hr
 · exact rown_do B b p vars ty name args frm loop A4 n4 c4 A5 n5 c5 r v3 v0 v1 v v2 vb fs ft n w hE hb hl hok hp hfr (by simp[zZ]at hf;omega) hr
end
theorem numB_parts {l:List UInt8} (h:jm l=true):l≠[]∧l.all kO=true∧jd 0 l<9223372036854775808:=by
 simp only[jm,Bool.and_eq_true,decide_eq_true_eq]at h;refine⟨fun e=>?_,h.1.1.2,h.2⟩;rw[e]at h;simp at h
theorem rvalue_num (s:ByteArray) (w:World) (hs:s.size≤281474976710656) (hn:jm s.data.toList=true):
 Calls Tryz.prog 43 #[.string s] w fun e w'=>e=.returned (.int .i64 (jd 0 s.data.toList:Nat))∧w=w':=by
 obtain⟨hne,hd,hbg⟩:=numB_parts hn;have hp:0<s.size:=by rw[Lib.size_eq];exact List.length_pos_iff.2 hne
 have he:s.toList.isEmpty=false:=by rw[Lib.toList_data];simpa using hne
 have HD:=hid hd;have HNB:=hid hn;have HB:=hid hbg;clear hne hd hn hbg;go_enter Tryz.func43,Tryz.ntmps43;go_wp2
 go_loop [3,4,5] (fun n i _=>∃ (k m:Nat),k≤s.size∧i=.int .i64 k∧n=.int .i64 m∧m=jd 0 (s.data.toList.take k)∧m<9223372036854775808) (fun _ i _=>s.size-(intOf i).toNat)
 case atStart=>exact⟨0,0,Nat.zero_le _,rfl,rfl,by rw[List.take_zero,uZ],by omega⟩
 case round=>
  obtain⟨k,m,hk,rfl,rfl,hm,hbig⟩:=hrel;have HM:=hid hm;clear hm;by_cases hlt:k<s.size
  · obtain⟨c,hc⟩:∃ c:Int,(s[k].toNat:Int)=c:=⟨_,rfl⟩
    have hix:=y9 s k hlt c hc;have HC:=hid hc;have hdk:=dig_at hlt HD.out;have h48:48≤c:=by omega
    have h57:c≤57:=by omega
    clear hc hdk
    have hov:¬ (9223372036854775807-(c-48)) / 10<(m:Int):=fun hov=>by
     have:=numB_over s k m hlt HM.out c HC.out h48 hov;rw[HNB.out]at this;cases this
    go_wp2;have HC2:=HC.out;have hmc:((m * 10+(s[k].toNat-48):Nat):Int)=(m:Int) * 10+(c-48):=by omega
    have hle:=uc s.data.toList (k+1);rw[vc hlt,vT,←HM.out]at hle;have hb2:=HB.out;go_round
    case rel=>exact⟨k+1,m * 10+(s[k].toNat-48),by omega,by go_num,by rw[hmc],by rw[vc hlt,vT,←HM.out],by omega⟩
    case measure=>simp[intOf];omega
  · have e:k=s.size:=by omega
    subst e
    have HM2:Hid (m=jd 0 s.data.toList):=by
     unfold Hid;rw[HM.out,List.take_of_length_le (by rw[←Lib.size_eq];exact Nat.le_refl _)]
    obtain⟨c,hc⟩:∃ c:Int,(s[0].toNat:Int)=c:=⟨_,rfl⟩
    have hix:=byte_index0 s hp c hc
    have hN:(decide (s.size=1) || decide (c≠48))=true:=by
     rw[←HNB.out,numB_one s hp HD.out HB.out];congr 1;rw[Bool.eq_iff_iff];simp;omega
    have HN:=hid hN;clear hc hN;by_cases h1:1<s.size
    · have h2:c≠48:=by
       have:=HN.out;rw[decide_eq_false (show ¬ s.size=1 by omega),Bool.false_or]at this;exact of_decide_eq_true this
      go_wp2;go_ret;exact⟨congrArg (fun n:Nat=>Ending.returned (.int .i64 (n:Int))) HM2.out,rfl⟩
    · go_wp2
      go_ret;exact⟨congrArg (fun n:Nat=>Ending.returned (.int .i64 (n:Int))) HM2.out,rfl⟩
theorem yS {b:Nat} {V:Value} {all:List Tok} {x:PR Unit} {w:World} (h:qx b V all x w) (ho:zg x=true) (d:Int):
 Calls Tryz.prog 119 #[.pointer (some ⟨b,0,none⟩),.int .i64 d] w fun e w'=>e=.returned ex0V∧qY b V all w x w':=by
 have HC:=hid (jS.start h);have HO:=hid ho;clear h ho;go_enter Tryz.func119,Tryz.ntmps119;go_wp2_with (go_at_call 39;(with_reducible refine(zl HC.out.st true HO.out).mono ?_);rintro e w1 ⟨rfl,rfl⟩);exact bodyPost_ret (v:=ex0V) (by simp[results,Tryz.results119,go_sem,ex0V]) rfl ⟨rfl,HC.out.did⟩
theorem prim_true {b:Nat} {V:Value} {all r:List Tok} {w:World} {n:Nat} {d:Int} (h:zS b V all r false false w) (hd:0≤d∧d≤1000) (h1:z6 [40] r=false) (h2:z6 uD r=true):
 Calls Tryz.prog 119 #[.pointer (some ⟨b,0,none⟩),.int .i64 d] w (qF b V all w (pP (n+1) d r) (jc w.heap.size)):=by
 obtain⟨hd0,hd1⟩:=hd;have hlt:=h.lt;have HC:=hid (jS.start (x:=.ok () r) h);have ex:pP (n+1) d r=.ok (.mk 2 0 1 bE []) r.tail:=by rw[pP,h1,h2,if_neg (by decide),if_pos rfl]
 rw[ex];have N1:=hid (show zP (⟨#[40]⟩:ByteArray).data.toList (PR.ok () r)=false from h1);have Y1:=hid (show zP (⟨#[116,114,117,101]⟩:ByteArray).data.toList (PR.ok () r)=true from h2);clear h h1 h2 ex;go_enter Tryz.func119,Tryz.ntmps119
 go_wp2_with (first
  | (go_at_call 39;(with_reducible refine(zl HC.out.st false rfl).mono ?_);rintro e w1 ⟨rfl,rfl⟩)
  | (go_at_call 42;(with_reducible refine(zF HC.out.st _ N1.out).mono ?_);rintro e w1 ⟨rfl,hD⟩
     replace HC:=hid (HC.out.step hD);clear hD
     obtain⟨⟨c0,c1,c2,c3,c4⟩,fz⟩:=HC.out.own)
  | (go_at_call 42;(with_reducible refine(zb HC.out.st _ Y1.out).mono ?_);rintro e w1 ⟨rfl,hD⟩
     replace HC:=hid (show jS b _ all w (.ok () r.tail) w1 from HC.out.step hD);clear hD
     obtain⟨⟨c0,c1,c2,c3,c4⟩,fz⟩:=HC.out.own))
 obtain⟨f0,f1,f2,f3,f4⟩:=HC.out.read (.int .i64 2) (.int .i64 0) (.int .i64 1) (.string ⟨#[]⟩) (.slice none 0 0);refine bodyPost_ret (v:=.agg #[.int .i64 2,.int .i64 0,.int .i64 1,.string ⟨#[]⟩,.slice none 0 0]) (by simp[results,Tryz.results119,go_sem,f0,f1,f2,f3,f4]) rfl ?_;exact HC.out.fin (rfl) (ye _ _ 2 0 1 bE (by constructor <;> decide))
theorem prim_false {b:Nat} {V:Value} {all r:List Tok} {w:World} {n:Nat} {d:Int} (h:zS b V all r false false w) (hd:0≤d∧d≤1000) (h1:z6 [40] r=false) (h2:z6 uD r=false) (h3:z6 y8 r=true):
 Calls Tryz.prog 119 #[.pointer (some ⟨b,0,none⟩),.int .i64 d] w (qF b V all w (pP (n+1) d r) (jc w.heap.size)):=by
 obtain⟨hd0,hd1⟩:=hd;have hlt:=h.lt;have HC:=hid (jS.start (x:=.ok () r) h);have ex:pP (n+1) d r=.ok (.mk 2 0 0 bE []) r.tail:=by rw[pP,h1,h2,h3,if_neg (by decide),if_neg (by decide),if_pos rfl]
 rw[ex];have N1:=hid (show zP (⟨#[40]⟩:ByteArray).data.toList (PR.ok () r)=false from h1);have N2:=hid (show zP (⟨#[116,114,117,101]⟩:ByteArray).data.toList (PR.ok () r)=false from h2);have Y1:=hid (show zP (⟨#[102,97,108,115,101]⟩:ByteArray).data.toList (PR.ok () r)=true from h3);clear h h1 h2 h3 ex;go_enter Tryz.func119,Tryz.ntmps119
 go_wp2_with (first
  | (go_at_call 39;(with_reducible refine(zl HC.out.st false rfl).mono ?_);rintro e w1 ⟨rfl,rfl⟩)
  | (go_at_call 42;(with_reducible refine(zF HC.out.st _ N1.out).mono ?_);rintro e w1 ⟨rfl,hD⟩
     replace HC:=hid (HC.out.step hD);clear hD
     obtain⟨⟨c0,c1,c2,c3,c4⟩,fz⟩:=HC.out.own)
  | (go_at_call 42;(with_reducible refine(zF HC.out.st _ N2.out).mono ?_);rintro e w1 ⟨rfl,hD⟩
     replace HC:=hid (HC.out.step hD);clear hD
     obtain⟨⟨c0,c1,c2,c3,c4⟩,fz⟩:=HC.out.own)
  | (go_at_call 42;(with_reducible refine(zb HC.out.st _ Y1.out).mono ?_);rintro e w1 ⟨rfl,hD⟩
     replace HC:=hid (show jS b _ all w (.ok () r.tail) w1 from HC.out.step hD);clear hD
     obtain⟨⟨c0,c1,c2,c3,c4⟩,fz⟩:=HC.out.own))
 obtain⟨f0,f1,f2,f3,f4⟩:=HC.out.read (.int .i64 2) (.int .i64 0) (.int .i64 0) (.string ⟨#[]⟩) (.slice none 0 0);refine bodyPost_ret (v:=.agg #[.int .i64 2,.int .i64 0,.int .i64 0,.string ⟨#[]⟩,.slice none 0 0]) (by simp[results,Tryz.results119,go_sem,f0,f1,f2,f3,f4]) rfl ?_;exact HC.out.fin (rfl) (ye _ _ 2 0 0 bE (by constructor <;> decide))
theorem prim_read {b:Nat} {V:Value} {all r:List Tok} {w:World} {n:Nat} {d:Int} (h:zS b V all r false false w) (hd:0≤d∧d≤1000) (h1:z6 [40] r=false) (h2:z6 uD r=false) (h3:z6 y8 r=false) (h4:z6 sRead r=true):
 Calls Tryz.prog 119 #[.pointer (some ⟨b,0,none⟩),.int .i64 d] w (qF b V all w (pP (n+1) d r) (jc w.heap.size)):=by
 obtain⟨hd0,hd1⟩:=hd;have hlt:=h.lt;have HC:=hid (jS.start (x:=.ok () r) h);have ex:pP (n+1) d r=(zL [40] r.tail).bind fun _ r=>(zL [41] r).bind fun _ r=>.ok (.mk 8 0 0 bE []) r:=by rw[pP,h1,h2,h3,h4,if_neg (by decide),if_neg (by decide),if_neg (by decide),if_pos rfl]
 rw[ex];have N1:=hid (show zP (⟨#[40]⟩:ByteArray).data.toList (PR.ok () r)=false from h1);have N2:=hid (show zP (⟨#[116,114,117,101]⟩:ByteArray).data.toList (PR.ok () r)=false from h2);have N3:=hid (show zP (⟨#[102,97,108,115,101]⟩:ByteArray).data.toList (PR.ok () r)=false from h3);have Y1:=hid (show zP (⟨#[114,101,97,100]⟩:ByteArray).data.toList (PR.ok () r)=true from h4);clear h h1 h2 h3 h4 ex;go_enter Tryz.func119,Tryz.ntmps119
 go_wp2_with (first
  | (go_at_call 39;(with_reducible refine(zl HC.out.st false rfl).mono ?_);rintro e w1 ⟨rfl,rfl⟩)
  | (go_at_call 42;(with_reducible refine(zF HC.out.st _ N1.out).mono ?_);rintro e w1 ⟨rfl,hD⟩
     replace HC:=hid (HC.out.step hD);clear hD
     obtain⟨⟨c0,c1,c2,c3,c4⟩,fz⟩:=HC.out.own)
  | (go_at_call 42;(with_reducible refine(zF HC.out.st _ N2.out).mono ?_);rintro e w1 ⟨rfl,hD⟩
     replace HC:=hid (HC.out.step hD);clear hD
     obtain⟨⟨c0,c1,c2,c3,c4⟩,fz⟩:=HC.out.own)
  | (go_at_call 42;(with_reducible refine(zF HC.out.st _ N3.out).mono ?_);rintro e w1 ⟨rfl,hD⟩
     replace HC:=hid (HC.out.step hD);clear hD
     obtain⟨⟨c0,c1,c2,c3,c4⟩,fz⟩:=HC.out.own)
  | (go_at_call 42;(with_reducible refine(zb HC.out.st _ Y1.out).mono ?_);rintro e w1 ⟨rfl,hD⟩
     replace HC:=hid (show jS b _ all w (.ok () r.tail) w1 from HC.out.step hD);clear hD
     obtain⟨⟨c0,c1,c2,c3,c4⟩,fz⟩:=HC.out.own)
  | (go_at_call 44;(with_reducible refine(zW HC.out.st ⟨#[40]⟩).mono ?_);rintro e w1 ⟨rfl,hD⟩
     replace HC:=hid (show jS b _ all w (zL [40] r.tail) w1 from HC.out.step hD)
     clear hD)
  | (go_at_call 44;(with_reducible refine(zW HC.out.st ⟨#[41]⟩).mono ?_);rintro e w1 ⟨rfl,hD⟩
     replace HC:=hid (show jS b _ all w ((zL [40] r.tail).bind fun _ r=>zL [41] r) w1 from HC.out.step hD);clear hD
     obtain⟨⟨c0,c1,c2,c3,c4⟩,fz⟩:=HC.out.own))
 obtain⟨f0,f1,f2,f3,f4⟩:=HC.out.read (.int .i64 8) (.int .i64 0) (.int .i64 0) (.string ⟨#[]⟩) (.slice none 0 0);refine bodyPost_ret (v:=.agg #[.int .i64 8,.int .i64 0,.int .i64 0,.string ⟨#[]⟩,.slice none 0 0]) (by simp[results,Tryz.results119,go_sem,f0,f1,f2,f3,f4]) rfl ?_;exact HC.out.fin (by rw[qr];simp only[jz]) (qn.bind (P:=fun _=>True) (by unfold zL;split;trivial;exact⟨(),trivial⟩) (fun _ r _ _=>xe (ye _ _ 8 0 0 bE (by constructor <;> decide))) (fun _ _=>⟨_,ye _ _ 8 0 0 bE (by constructor <;> decide)⟩))
theorem prim_paren {b:Nat} {V:Value} {all r:List Tok} {w:World} {n:Nat} {d:Int} (hE:CE b V all n 1 (d+1)) (h:zS b V all r false false w) (hd:0≤d∧d≤1000) (h1:z6 [40] r=true) (hn:zG (pP (n+1) d r)):
 Calls Tryz.prog 119 #[.pointer (some ⟨b,0,none⟩),.int .i64 d] w (qF b V all w (pP (n+1) d r) (jc w.heap.size)):=by
 obtain⟨hd0,hd1⟩:=hd;have hlt:=h.lt;have HC:=hid (jS.start (x:=.ok () r) h);rw[pP,if_pos h1]at hn ⊢;have Y1:=hid (show zP (⟨#[40]⟩:ByteArray).data.toList (PR.ok () r)=true from h1);have HN:=hid (show zG ((PR.ok () r.tail).bind fun _ r=>pE n 1 (d+1) r) from zo hn);have HE:=hid hE;clear h h1 hn hE;go_enter Tryz.func119,Tryz.ntmps119
 go_wp2_with (first
  | (go_at_call 39;(with_reducible refine(zl HC.out.st false rfl).mono ?_);rintro e w1 ⟨rfl,rfl⟩)
  | (go_at_call 42;(with_reducible refine(zb HC.out.st _ Y1.out).mono ?_);rintro e w1 ⟨rfl,hD⟩
     replace HC:=hid (show jS b _ all w (.ok () r.tail) w1 from HC.out.step hD);clear hD
     have hz1:=HC.out.size)
  | (go_at_call 97;(with_reducible refine(HE.out.call HC.out.st HN.out).mono ?_);rintro e w2 ⟨v,rfl,hD,hG2⟩
     obtain⟨k1,k2,k3,k4,k5,k6,k7,rfl⟩:=qS hG2 HN.out;have HG2:=hid hG2;have hb1:=HC.out.st.lt;replace HC:=hid (HC.out.step hD);have hb2:w2.heap.size≠b:=by have:=HC.out.st.lt;omega
     clear hD hG2)
  | (go_at_call 44;(with_reducible refine(zW (HC.out.alloc _).st _).mono ?_);rintro e w3 ⟨rfl,hD⟩
     have hk:=(zD.of_below (L:=w1.heap.size) (Zb.alloc Zr _)).trans (zD.did hD hb1);have HK:=hid hk;obtain⟨p3,r3⟩:=off_own hD.off (k:=w2.heap.size) (by simp) hb2;replace HC:=hid ((HC.out.alloc _).step hD);clear hD hk
     obtain⟨⟨c0,c1,c2,c3,c4⟩,fz⟩:=HC.out.own))
 obtain⟨f0,f1,f2,f3,f4⟩:=HC.out.read (.int .i64 k1) (.int .i64 k2) (.int .i64 k3) (.string k4) (.slice k5 k6 k7);refine bodyPost_ret (v:=.agg #[.int .i64 k1,.int .i64 k2,.int .i64 k3,.string k4,.slice k5 k6 k7]) (by simp[results,Tryz.results119,go_sem,f0,f1,f2,f3,f4]) rfl ?_;refine HC.out.fin ?_ ((HG2.out.imp fun a ha=>(jc.keep ha HK.out Zr).writ hz1 _ _ _ _ _).bind (fun a r _ ha=>xe ha) fun a ha=>⟨a,ha⟩);rw[qr];simp only[jz];rw[←bind_un];rfl
theorem prim_num {b:Nat} {V:Value} {all r:List Tok} {w:World} {n:Nat} {d:Int} (h:zS b V all r false false w) (hd:0≤d∧d≤1000) (h1:z6 [40] r=false) (h2:z6 uD r=false) (h3:z6 y8 r=false) (h4:z6 sRead r=false) (h5:yn r=0):
 Calls Tryz.prog 119 #[.pointer (some ⟨b,0,none⟩),.int .i64 d] w (qF b V all w (pP (n+1) d r) (jc w.heap.size)):=by
 obtain⟨hd0,hd1⟩:=hd;have hlt:=h.lt;have HC:=hid (jS.start (x:=.ok () r) h);have hnum:=h.num h5;have ex:pP (n+1) d r=.ok (.mk 1 0 (jd 0 (hdT r)) bE []) r.tail:=by rw[pP,h1,h2,h3,h4,if_neg (by decide),if_neg (by decide),if_neg (by decide),if_neg (by decide),if_pos h5]
 rw[ex];have N1:=hid (show zP (⟨#[40]⟩:ByteArray).data.toList (PR.ok () r)=false from h1);have N2:=hid (show zP (⟨#[116,114,117,101]⟩:ByteArray).data.toList (PR.ok () r)=false from h2);have N3:=hid (show zP (⟨#[102,97,108,115,101]⟩:ByteArray).data.toList (PR.ok () r)=false from h3);have N4:=hid (show zP (⟨#[114,101,97,100]⟩:ByteArray).data.toList (PR.ok () r)=false from h4);have H5:=hid h5;have HNU:=hid hnum;clear h h1 h2 h3 h4 h5 ex hnum;go_enter Tryz.func119,Tryz.ntmps119
 go_wp2_with (first
  | (go_at_call 39;(with_reducible refine(zl HC.out.st false rfl).mono ?_);rintro e w1 ⟨rfl,rfl⟩)
  | (go_at_call 42;(with_reducible refine(zF HC.out.st _ N1.out).mono ?_);rintro e w1 ⟨rfl,hD⟩
     replace HC:=hid (HC.out.step hD);clear hD
     obtain⟨⟨c0,c1,c2,c3,c4⟩,fz⟩:=HC.out.own)
  | (go_at_call 42;(with_reducible refine(zF HC.out.st _ N2.out).mono ?_);rintro e w1 ⟨rfl,hD⟩
     replace HC:=hid (HC.out.step hD);clear hD
     obtain⟨⟨c0,c1,c2,c3,c4⟩,fz⟩:=HC.out.own)
  | (go_at_call 42;(with_reducible refine(zF HC.out.st _ N3.out).mono ?_);rintro e w1 ⟨rfl,hD⟩
     replace HC:=hid (HC.out.step hD);clear hD
     obtain⟨⟨c0,c1,c2,c3,c4⟩,fz⟩:=HC.out.own)
  | (go_at_call 42;(with_reducible refine(zF HC.out.st _ N4.out).mono ?_);rintro e w1 ⟨rfl,hD⟩
     replace HC:=hid (HC.out.step hD);clear hD
     obtain⟨⟨c0,c1,c2,c3,c4⟩,fz⟩:=HC.out.own))
 obtain⟨g,c,k,t,q,rfl,rfl,hk,hklt,hl,b0,b1,b2,b3,t0,t1,t2⟩:=(show zS b V all r false false w1 from HC.out.st).tok;have hklt2:(k:Int)<all.length:=by omega
 clear hk;rw[show t.kind=0 from H5.out]at t0
 go_quiet (fail)
 replace HC:=hid (HC.out.drewN nq);clear b0 b1 b2 b3 t0 t1 t2;obtain⟨m,hm⟩:∃ m:Nat,jd 0 (⟨t.text.toArray⟩:ByteArray).data.toList=m:=⟨_,rfl⟩
 have hm2:m<9223372036854775808:=by rw[←hm];exact HNU.out.2.2
 have HM:=hid hm;clear hm
 go_wp2_with (first
  | (go_at_call 41;(with_reducible refine(vI HC.out.st 0 (by decide) H5.out ⟨t.text.toArray⟩ rfl).mono ?_);rintro e w2 ⟨rfl,hD⟩
     replace HC:=hid (HC.out.step hD);clear hD
     obtain⟨⟨c0,c1,c2,c3,c4⟩,fz⟩:=HC.out.own)
  | (go_at_call 43;(refine(rvalue_num ⟨t.text.toArray⟩ _ HNU.out.1 HNU.out.2.1).mono ?_);rintro e w3 ⟨rfl,rfl⟩;rw[HM.out]))
 have eN:Ex.mk 1 0 (jd 0 (hdT (t :: q)):Nat) bE []=.mk 1 0 m bE []:=congrArg (fun x:Nat=>Ex.mk 1 0 x bE []) HM.out;rw[eN];obtain⟨f0,f1,f2,f3,f4⟩:=HC.out.read (.int .i64 1) (.int .i64 0) (.int .i64 m) (.string ⟨#[]⟩) (.slice none 0 0);refine bodyPost_ret (v:=.agg #[.int .i64 1,.int .i64 0,.int .i64 m,.string ⟨#[]⟩,.slice none 0 0]) (by simp[results,Tryz.results119,go_sem,f0,f1,f2,f3,f4]) rfl ?_;exact HC.out.fin (rfl) (ye _ _ 1 0 m bE (by unfold vw;omega))
theorem prim_bad {b:Nat} {V:Value} {all r:List Tok} {w:World} {n:Nat} {d:Int} (h:zS b V all r false false w) (hd:0≤d∧d≤1000) (h1:z6 [40] r=false) (h2:z6 uD r=false) (h3:z6 y8 r=false) (h4:z6 sRead r=false) (h5:yn r≠0) (h6:yn r≠1):
 Calls Tryz.prog 119 #[.pointer (some ⟨b,0,none⟩),.int .i64 d] w (qF b V all w (pP (n+1) d r) (jc w.heap.size)):=by
 obtain⟨hd0,hd1⟩:=hd;have hlt:=h.lt;have HC:=hid (jS.start (x:=.ok () r) h);have ex:pP (n+1) d r=.bad r:=by rw[pP,h1,h2,h3,h4,if_neg (by decide),if_neg (by decide),if_neg (by decide),if_neg (by decide),if_neg h5];unfold qP;rw[if_neg h6];rfl
 rw[ex];have N1:=hid (show zP (⟨#[40]⟩:ByteArray).data.toList (PR.ok () r)=false from h1);have N2:=hid (show zP (⟨#[116,114,117,101]⟩:ByteArray).data.toList (PR.ok () r)=false from h2);have N3:=hid (show zP (⟨#[102,97,108,115,101]⟩:ByteArray).data.toList (PR.ok () r)=false from h3);have N4:=hid (show zP (⟨#[114,101,97,100]⟩:ByteArray).data.toList (PR.ok () r)=false from h4);have H5:=hid h5;have H6:=hid h6;have B1:=hid (show zP (⟨#[40]⟩:ByteArray).data.toList ((PR.bad r:PR Unit))=false from rfl);have B2:=hid (show zP (⟨#[91]⟩:ByteArray).data.toList ((PR.bad r:PR Unit))=false from rfl);clear h h1 h2 h3 h4 h5 h6 ex;go_enter Tryz.func119,Tryz.ntmps119
 go_wp2_with (first
  | (go_at_call 39;(with_reducible refine(zl HC.out.st false rfl).mono ?_);rintro e w1 ⟨rfl,rfl⟩)
  | (go_at_call 42;(with_reducible refine(zF HC.out.st _ N1.out).mono ?_);rintro e w1 ⟨rfl,hD⟩
     replace HC:=hid (HC.out.step hD);clear hD
     obtain⟨⟨c0,c1,c2,c3,c4⟩,fz⟩:=HC.out.own)
  | (go_at_call 42;(with_reducible refine(zF HC.out.st _ N2.out).mono ?_);rintro e w1 ⟨rfl,hD⟩
     replace HC:=hid (HC.out.step hD);clear hD
     obtain⟨⟨c0,c1,c2,c3,c4⟩,fz⟩:=HC.out.own)
  | (go_at_call 42;(with_reducible refine(zF HC.out.st _ N3.out).mono ?_);rintro e w1 ⟨rfl,hD⟩
     replace HC:=hid (HC.out.step hD);clear hD
     obtain⟨⟨c0,c1,c2,c3,c4⟩,fz⟩:=HC.out.own)
  | (go_at_call 42;(with_reducible refine(zF HC.out.st _ N4.out).mono ?_);rintro e w1 ⟨rfl,hD⟩
     replace HC:=hid (HC.out.step hD);clear hD
     obtain⟨⟨c0,c1,c2,c3,c4⟩,fz⟩:=HC.out.own))
 obtain⟨g,c,k,t,q,rfl,rfl,hk,hklt,hl,b0,b1,b2,b3,t0,t1,t2⟩:=(show zS b V all r false false w1 from HC.out.st).tok;have hklt2:(k:Int)<all.length:=by omega
 clear hk;have hk0:(t.kind == 0)=false:=by have:=H5.out;simpa[yn] using this
 go_quiet (fail)
 replace HC:=hid (HC.out.drewN nq);clear b0 b1 b2 b3 t0 t1 t2
 go_wp2_with (first
  | (go_at_call 41;(with_reducible refine(text_no HC.out.st 1 (by decide) H6.out).mono ?_);rintro e w2 ⟨s,rfl,hD⟩
     replace HC:=hid (HC.out.step hD)
     clear hD)
  | (go_at_call 42;(with_reducible refine(zF HC.out.st _ B1.out).mono ?_);rintro e w1 ⟨rfl,hD⟩
     replace HC:=hid (HC.out.step hD);clear hD
     obtain⟨⟨c0,c1,c2,c3,c4⟩,fz⟩:=HC.out.own)
  | (go_at_call 42;(with_reducible refine(zF HC.out.st _ B2.out).mono ?_);rintro e w1 ⟨rfl,hD⟩
     replace HC:=hid (HC.out.step hD);clear hD
     obtain⟨⟨c0,c1,c2,c3,c4⟩,fz⟩:=HC.out.own))
 obtain⟨f0,f1,f2,f3,f4⟩:=HC.out.read (.int .i64 3) (.int .i64 0) (.int .i64 0) (.string s) (.slice none 0 0);refine bodyPost_ret (v:=.agg #[.int .i64 3,.int .i64 0,.int .i64 0,.string s,.slice none 0 0]) (by simp[results,Tryz.results119,go_sem,f0,f1,f2,f3,f4]) rfl ?_;exact HC.out.fin (rfl) (⟨_,ye _ _ 3 0 0 s (by constructor <;> decide)⟩)
theorem prim_name {b:Nat} {V:Value} {all r:List Tok} {w:World} {n:Nat} {d:Int} (h:zS b V all r false false w) (hd:0≤d∧d≤1000) (h1:z6 [40] r=false) (h2:z6 uD r=false) (h3:z6 y8 r=false) (h4:z6 sRead r=false) (h6:yn r=1) (h7:z6 [40] r.tail=false) (h8:z6 [91] r.tail=false) (hn:zG (pP (n+1) d r)):
 Calls Tryz.prog 119 #[.pointer (some ⟨b,0,none⟩),.int .i64 d] w (qF b V all w (pP (n+1) d r) (jc w.heap.size)):=by
 obtain⟨hd0,hd1⟩:=hd;have hlt:=h.lt;have HC:=hid (jS.start (x:=.ok () r) h);obtain⟨s,hs⟩:∃ s:ByteArray,s=⟨(hdT r).toArray⟩:=⟨_,rfl⟩
 have h5:yn r≠0:=by rw[h6];decide
 have ex:pP (n+1) d r=pN n d s r.tail:=by rw[pP,h1,h2,h3,h4,if_neg (by decide),if_neg (by decide),if_neg (by decide),if_neg (by decide),if_neg h5,hs];unfold qP;rw[if_pos h6];rfl
 cases n with
 | zero=>rw[ex,pN]at hn;exact absurd hn id
 | succ n=>
 have ey:pN (n+1) d s r.tail=.ok (.mk 3 0 0 s []) r.tail:=by rw[pN,h7,h8,if_neg (by decide),if_neg (by decide)]
 rw[ex,ey];have N1:=hid (show zP (⟨#[40]⟩:ByteArray).data.toList (PR.ok () r)=false from h1);have N2:=hid (show zP (⟨#[116,114,117,101]⟩:ByteArray).data.toList (PR.ok () r)=false from h2);have N3:=hid (show zP (⟨#[102,97,108,115,101]⟩:ByteArray).data.toList (PR.ok () r)=false from h3);have N4:=hid (show zP (⟨#[114,101,97,100]⟩:ByteArray).data.toList (PR.ok () r)=false from h4);have H5:=hid h5;have H6:=hid h6;have HS:=hid hs;have B1:=hid (show zP (⟨#[40]⟩:ByteArray).data.toList (PR.ok () r.tail)=false from h7);have B2:=hid (show zP (⟨#[91]⟩:ByteArray).data.toList (PR.ok () r.tail)=false from h8);clear h h1 h2 h3 h4 h5 h6 h7 h8 ex ey hs hn;go_enter Tryz.func119,Tryz.ntmps119
 go_wp2_with (first
  | (go_at_call 39;(with_reducible refine(zl HC.out.st false rfl).mono ?_);rintro e w1 ⟨rfl,rfl⟩)
  | (go_at_call 42;(with_reducible refine(zF HC.out.st _ N1.out).mono ?_);rintro e w1 ⟨rfl,hD⟩
     replace HC:=hid (HC.out.step hD);clear hD
     obtain⟨⟨c0,c1,c2,c3,c4⟩,fz⟩:=HC.out.own)
  | (go_at_call 42;(with_reducible refine(zF HC.out.st _ N2.out).mono ?_);rintro e w1 ⟨rfl,hD⟩
     replace HC:=hid (HC.out.step hD);clear hD
     obtain⟨⟨c0,c1,c2,c3,c4⟩,fz⟩:=HC.out.own)
  | (go_at_call 42;(with_reducible refine(zF HC.out.st _ N3.out).mono ?_);rintro e w1 ⟨rfl,hD⟩
     replace HC:=hid (HC.out.step hD);clear hD
     obtain⟨⟨c0,c1,c2,c3,c4⟩,fz⟩:=HC.out.own)
  | (go_at_call 42;(with_reducible refine(zF HC.out.st _ N4.out).mono ?_);rintro e w1 ⟨rfl,hD⟩
     replace HC:=hid (HC.out.step hD);clear hD
     obtain⟨⟨c0,c1,c2,c3,c4⟩,fz⟩:=HC.out.own))
 obtain⟨g,c,k,t,q,rfl,rfl,hk,hklt,hl,b0,b1,b2,b3,t0,t1,t2⟩:=(show zS b V all r false false w1 from HC.out.st).tok;have hklt2:(k:Int)<all.length:=by omega
 clear hk;have hk0:(t.kind == 0)=false:=by have:=H5.out;simpa[yn] using this
 go_quiet (fail)
 replace HC:=hid (HC.out.drewN nq);clear b0 b1 b2 b3 t0 t1 t2
 go_wp2_with (first
  | (go_at_call 41;(with_reducible refine(vI HC.out.st 1 (by decide) H6.out s HS.out).mono ?_);rintro e w2 ⟨rfl,hD⟩
     replace HC:=hid (HC.out.step hD)
     clear hD)
  | (go_at_call 42;(with_reducible refine(zF HC.out.st _ B1.out).mono ?_);rintro e w1 ⟨rfl,hD⟩
     replace HC:=hid (HC.out.step hD);clear hD
     obtain⟨⟨c0,c1,c2,c3,c4⟩,fz⟩:=HC.out.own)
  | (go_at_call 42;(with_reducible refine(zF HC.out.st _ B2.out).mono ?_);rintro e w1 ⟨rfl,hD⟩
     replace HC:=hid (HC.out.step hD);clear hD
     obtain⟨⟨c0,c1,c2,c3,c4⟩,fz⟩:=HC.out.own))
 obtain⟨f0,f1,f2,f3,f4⟩:=HC.out.read (.int .i64 3) (.int .i64 0) (.int .i64 0) (.string s) (.slice none 0 0);refine bodyPost_ret (v:=.agg #[.int .i64 3,.int .i64 0,.int .i64 0,.string s,.slice none 0 0]) (by simp[results,Tryz.results119,go_sem,f0,f1,f2,f3,f4]) rfl ?_;exact HC.out.fin (rfl) (ye _ _ 3 0 0 s (by constructor <;> decide))
theorem prim_call {b:Nat} {V:Value} {all r:List Tok} {w:World} {n:Nat} {d:Int} (hA:CA b V all n (d+1)) (h:zS b V all r false false w) (hd:0≤d∧d≤1000) (h1:z6 [40] r=false) (h2:z6 uD r=false) (h3:z6 y8 r=false) (h4:z6 sRead r=false) (h6:yn r=1) (h7:z6 [40] r.tail=true) (hn:zG (pP (n+2) d r)):
 Calls Tryz.prog 119 #[.pointer (some ⟨b,0,none⟩),.int .i64 d] w (qF b V all w (pP (n+2) d r) (jc w.heap.size)):=by
 obtain⟨hd0,hd1⟩:=hd;have hlt:=h.lt;have HC:=hid (jS.start (x:=.ok () r) h);obtain⟨s,hs⟩:∃ s:ByteArray,s=⟨(hdT r).toArray⟩:=⟨_,rfl⟩
 have h5:yn r≠0:=by rw[h6];decide
 have ex:pP (n+2) d r=pN (n+1) d s r.tail:=by rw[pP,h1,h2,h3,h4,if_neg (by decide),if_neg (by decide),if_neg (by decide),if_neg (by decide),if_neg h5,hs];unfold qP;rw[if_pos h6];rfl
 have ey:pN (n+1) d s r.tail=(pA n (d+1) r.tail.tail).bind fun es r=>.ok (.mk 7 0 0 s es) r:=by rw[pN,h7,if_pos rfl]
 rw[ex,ey]at hn ⊢;have HN:=hid (show zG ((PR.ok () r.tail.tail).bind fun _ r=>pA n (d+1) r) from zo hn);have HA:=hid hA;have N1:=hid (show zP (⟨#[40]⟩:ByteArray).data.toList (PR.ok () r)=false from h1);have N2:=hid (show zP (⟨#[116,114,117,101]⟩:ByteArray).data.toList (PR.ok () r)=false from h2);have N3:=hid (show zP (⟨#[102,97,108,115,101]⟩:ByteArray).data.toList (PR.ok () r)=false from h3);have N4:=hid (show zP (⟨#[114,101,97,100]⟩:ByteArray).data.toList (PR.ok () r)=false from h4);have H5:=hid h5;have H6:=hid h6;have HS:=hid hs;have Y1:=hid (show zP (⟨#[40]⟩:ByteArray).data.toList (PR.ok () r.tail)=true from h7);clear h h1 h2 h3 h4 h5 h6 h7 ex ey hs hn hA;go_enter Tryz.func119,Tryz.ntmps119
 go_wp2_with (first
  | (go_at_call 39;(with_reducible refine(zl HC.out.st false rfl).mono ?_);rintro e w1 ⟨rfl,rfl⟩)
  | (go_at_call 42;(with_reducible refine(zF HC.out.st _ N1.out).mono ?_);rintro e w1 ⟨rfl,hD⟩
     replace HC:=hid (HC.out.step hD);clear hD
     obtain⟨⟨c0,c1,c2,c3,c4⟩,fz⟩:=HC.out.own)
  | (go_at_call 42;(with_reducible refine(zF HC.out.st _ N2.out).mono ?_);rintro e w1 ⟨rfl,hD⟩
     replace HC:=hid (HC.out.step hD);clear hD
     obtain⟨⟨c0,c1,c2,c3,c4⟩,fz⟩:=HC.out.own)
  | (go_at_call 42;(with_reducible refine(zF HC.out.st _ N3.out).mono ?_);rintro e w1 ⟨rfl,hD⟩
     replace HC:=hid (HC.out.step hD);clear hD
     obtain⟨⟨c0,c1,c2,c3,c4⟩,fz⟩:=HC.out.own)
  | (go_at_call 42;(with_reducible refine(zF HC.out.st _ N4.out).mono ?_);rintro e w1 ⟨rfl,hD⟩
     replace HC:=hid (HC.out.step hD);clear hD
     obtain⟨⟨c0,c1,c2,c3,c4⟩,fz⟩:=HC.out.own))
 obtain⟨g,c,k,t,q,rfl,rfl,hk,hklt,hl,b0,b1,b2,b3,t0,t1,t2⟩:=(show zS b V all r false false w1 from HC.out.st).tok;have hklt2:(k:Int)<all.length:=by omega
 clear hk;have hk0:(t.kind == 0)=false:=by have:=H5.out;simpa[yn] using this
 go_quiet (fail)
 replace HC:=hid (HC.out.drewN nq);clear b0 b1 b2 b3 t0 t1 t2
 go_wp2_with (first
  | (go_at_call 41;(with_reducible refine(vI HC.out.st 1 (by decide) H6.out s HS.out).mono ?_);rintro e w2 ⟨rfl,hD⟩
     replace HC:=hid (HC.out.step hD)
     clear hD)
  | (go_at_call 42;(with_reducible refine(zb HC.out.st _ Y1.out).mono ?_);rintro e w3 ⟨rfl,hD⟩
     replace HC:=hid (show jS b _ all w (.ok () (t :: q).tail.tail) w3 from HC.out.step hD);clear hD
     have hz3:=HC.out.size)
  | (go_at_call 113;(with_reducible refine(HA.out.call HC.out.st HN.out).mono ?_);rintro e w4 ⟨v,rfl,hD,hG⟩
     obtain⟨k5,k6,k7,rfl⟩:=got_forms hG HN.out;have HG:=hid hG;replace HC:=hid (HC.out.step hD);clear hD hG
     obtain⟨⟨c0,c1,c2,c3,c4⟩,fz⟩:=HC.out.own))
 obtain⟨f0,f1,f2,f3,f4⟩:=HC.out.read (.int .i64 7) (.int .i64 0) (.int .i64 0) (.string s) (.slice k5 k6 k7);refine bodyPost_ret (v:=.agg #[.int .i64 7,.int .i64 0,.int .i64 0,.string s,.slice k5 k6 k7]) (by simp[results,Tryz.results119,go_sem,f0,f1,f2,f3,f4]) rfl ?_;refine HC.out.fin (by rw[qr];rfl) (qn.bind HG.out (fun a r _ ha=>?_) fun a ha=>⟨.mk 7 0 0 s a,?_⟩)
 all_goals exact⟨_,rfl,⟨by show (_:Int)≤0;decide,by show (0 :Int)≤_;decide⟩,ha.writ hz3 _ _ _ _ _⟩
theorem prim_index {b:Nat} {V:Value} {all r:List Tok} {w:World} {n:Nat} {d:Int} (hE:CE b V all n 1 (d+1)) (h:zS b V all r false false w) (hd:0≤d∧d≤1000) (h1:z6 [40] r=false) (h2:z6 uD r=false) (h3:z6 y8 r=false) (h4:z6 sRead r=false) (h6:yn r=1) (h7:z6 [40] r.tail=false) (h8:z6 [91] r.tail=true) (hn:zG (pP (n+2) d r)):
 Calls Tryz.prog 119 #[.pointer (some ⟨b,0,none⟩),.int .i64 d] w (qF b V all w (pP (n+2) d r) (jc w.heap.size)):=by
 obtain⟨hd0,hd1⟩:=hd;have hlt:=h.lt;have HC:=hid (jS.start (x:=.ok () r) h);obtain⟨s,hs⟩:∃ s:ByteArray,s=⟨(hdT r).toArray⟩:=⟨_,rfl⟩
 have h5:yn r≠0:=by rw[h6];decide
 have ex:pP (n+2) d r=pN (n+1) d s r.tail:=by rw[pP,h1,h2,h3,h4,if_neg (by decide),if_neg (by decide),if_neg (by decide),if_neg (by decide),if_neg h5,hs];unfold qP;rw[if_pos h6];rfl
 have ey:pN (n+1) d s r.tail=(pE n 1 (d+1) r.tail.tail).bind fun e r=>(zL [93] r).bind fun _ r=>.ok (.mk 6 0 0 s [e]) r:=by rw[pN,h7,h8,if_neg (by decide),if_pos rfl]
 rw[ex,ey]at hn ⊢;have HN:=hid (show zG ((PR.ok () r.tail.tail).bind fun _ r=>pE n 1 (d+1) r) from zo hn);have HE:=hid hE;have N1:=hid (show zP (⟨#[40]⟩:ByteArray).data.toList (PR.ok () r)=false from h1);have N2:=hid (show zP (⟨#[116,114,117,101]⟩:ByteArray).data.toList (PR.ok () r)=false from h2);have N3:=hid (show zP (⟨#[102,97,108,115,101]⟩:ByteArray).data.toList (PR.ok () r)=false from h3);have N4:=hid (show zP (⟨#[114,101,97,100]⟩:ByteArray).data.toList (PR.ok () r)=false from h4);have H5:=hid h5;have H6:=hid h6;have HS:=hid hs;have B1:=hid (show zP (⟨#[40]⟩:ByteArray).data.toList (PR.ok () r.tail)=false from h7);have Y1:=hid (show zP (⟨#[91]⟩:ByteArray).data.toList (PR.ok () r.tail)=true from h8);clear h h1 h2 h3 h4 h5 h6 h7 h8 ex ey hs hn hE;go_enter Tryz.func119,Tryz.ntmps119
 go_wp2_with (first
  | (go_at_call 39;(with_reducible refine(zl HC.out.st false rfl).mono ?_);rintro e w1 ⟨rfl,rfl⟩)
  | (go_at_call 42;(with_reducible refine(zF HC.out.st _ N1.out).mono ?_);rintro e w1 ⟨rfl,hD⟩
     replace HC:=hid (HC.out.step hD);clear hD
     obtain⟨⟨c0,c1,c2,c3,c4⟩,fz⟩:=HC.out.own)
  | (go_at_call 42;(with_reducible refine(zF HC.out.st _ N2.out).mono ?_);rintro e w1 ⟨rfl,hD⟩
     replace HC:=hid (HC.out.step hD);clear hD
     obtain⟨⟨c0,c1,c2,c3,c4⟩,fz⟩:=HC.out.own)
  | (go_at_call 42;(with_reducible refine(zF HC.out.st _ N3.out).mono ?_);rintro e w1 ⟨rfl,hD⟩
     replace HC:=hid (HC.out.step hD);clear hD
     obtain⟨⟨c0,c1,c2,c3,c4⟩,fz⟩:=HC.out.own)
  | (go_at_call 42;(with_reducible refine(zF HC.out.st _ N4.out).mono ?_);rintro e w1 ⟨rfl,hD⟩
     replace HC:=hid (HC.out.step hD);clear hD
     obtain⟨⟨c0,c1,c2,c3,c4⟩,fz⟩:=HC.out.own))
 obtain⟨g,c,k,t,q,rfl,rfl,hk,hklt,hl,b0,b1,b2,b3,t0,t1,t2⟩:=(show zS b V all r false false w1 from HC.out.st).tok;have hklt2:(k:Int)<all.length:=by omega
 clear hk;have hk0:(t.kind == 0)=false:=by have:=H5.out;simpa[yn] using this
 go_quiet (fail)
 replace HC:=hid (HC.out.drewN nq);clear b0 b1 b2 b3 t0 t1 t2
 go_wp2_with (first
  | (go_at_call 41;(with_reducible refine(vI HC.out.st 1 (by decide) H6.out s HS.out).mono ?_);rintro e w2 ⟨rfl,hD⟩
     replace HC:=hid (HC.out.step hD)
     clear hD)
  | (go_at_call 42;(with_reducible refine(zF HC.out.st _ B1.out).mono ?_);rintro e w3 ⟨rfl,hD⟩
     replace HC:=hid (HC.out.step hD);clear hD
     obtain⟨⟨c0,c1,c2,c3,c4⟩,fz⟩:=HC.out.own)
  | (go_at_call 42;(with_reducible refine(zb HC.out.st _ Y1.out).mono ?_);rintro e w4 ⟨rfl,hD⟩
     replace HC:=hid (show jS b _ all w (.ok () (t :: q).tail.tail) w4 from HC.out.step hD);clear hD
     have hz1:=HC.out.size)
  | (go_at_call 97;(with_reducible refine(HE.out.call HC.out.st HN.out).mono ?_);rintro e w5 ⟨v,rfl,hD,hG2⟩
     obtain⟨k1,k2,k3,k4,k5,k6,k7,rfl⟩:=qS hG2 HN.out;have HG2:=hid hG2;have hb1:=HC.out.st.lt;replace HC:=hid (HC.out.step hD);have hb2:w5.heap.size≠b:=by have:=HC.out.st.lt;omega
     clear hD hG2)
  | (go_at_call 44;(with_reducible refine(zW (HC.out.alloc _).st _).mono ?_);rintro e w6 ⟨rfl,hD⟩
     have hk:=(zD.of_below (L:=w4.heap.size) (Zb.alloc Zr _)).trans (zD.did hD hb1);have HK:=hid hk;obtain⟨p3,r3⟩:=off_own hD.off (k:=w5.heap.size) (by simp) hb2;replace HC:=hid ((HC.out.alloc _).step hD);have hz6:=HC.out.size;clear hD hk
     obtain⟨⟨c0,c1,c2,c3,c4⟩,fz⟩:=HC.out.own))
 obtain⟨f0,f1,f2,f3,f4⟩:=HC.out.reada (.cells #[.int .i64 k1,.int .i64 k2,.int .i64 k3,.string k4,.slice k5 k6 k7] 116) (.int .i64 6) (.int .i64 0) (.int .i64 0) (.string s) (.slice (some ⟨w6.heap.size,0,none⟩) 1 1);refine bodyPost_ret (v:=.agg #[.int .i64 6,.int .i64 0,.int .i64 0,.string s,.slice (some ⟨w6.heap.size,0,none⟩) 1 1]) (by simp[results,Tryz.results119,go_sem,f0,f1,f2,f3,f4]) rfl ?_;refine HC.out.fina ?_ ((HG2.out.imp fun a ha=>(show jc w.heap.size ((writ w6 w.heap.size _ _ _ _ _).alloc _) (.mk 6 0 0 s [a]) _ from⟨_,rfl,⟨by show (_:Int)≤0;decide,by show (0 :Int)≤_;decide⟩,yF ((jc.keep ha HK.out Zr).writ hz1 _ _ _ _ _) Zr (by rw[kJ];omega) (kJ _ _ _ _ _ _ _).symm⟩)).bind (fun a r _ ha=>xe ha) fun a ha=>⟨_,ha⟩);rw[qr];simp only[jz];rw[←bind_un];rfl
end Go.Proofs.YtfghofifjnbicaaGreatDoor
