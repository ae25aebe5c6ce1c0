import Derived.Test.YtfghofifjnbicaaGreatDoorAhZed
import Derived.Test.YtfghofifjnbicaaGreatDoorAhTokRefA
import Derived.Lib.BufferMore
import Derived.Test.YtfghofifjnbicaaGreatDoorAhTyMath
set_option linter.unusedSimpArgs false
set_option linter.unusedVariables false
set_option maxRecDepth 100000
/- How single values that are expressions, and slices of few, come to lie in memory. -/
namespace Go.Proofs.YtfghofifjnbicaaGreatDoor
open Lib (hid)
open Go.RowKit
def vx (B:Nat) (w:World) (e:Ex) (x:Value):Prop:=∃ v,x=.agg #[.int .i64 e.kind,.int .i64 e.op,.int .i64 e.n,.string e.name,v]∧vw e.n∧qw B w v e.args
theorem vx.below {B B':Nat} {w w':World} {e:Ex} {x:Value} (h:vx B w e x) (hb:Below B w w') (hB:B≤B'):vx B' w' e x:=by
 obtain⟨v,hx,hn,hs⟩:=h;exact⟨v,hx,hn,hs.below hb hB⟩
theorem xq (B:Nat) (w:World):qw B w (.slice none 0 0) []:=⟨none,0,rfl,Nat.zero_le _,fun h=>absurd h (by simp)⟩
theorem slS_nil (B:Nat) (w:World):SlS B w (.slice none 0 0) []:=⟨none,0,rfl,Nat.zero_le _,fun h=>absurd h (by simp)⟩
theorem ue (B:Nat) (w:World):SlA B w (.slice none 0 0) []:=⟨none,0,rfl,Nat.zero_le _,fun h=>absurd h (by simp)⟩
theorem xc {w:World} {b:Nat} {cs:Array Value} {T:TypeId} {fr:Nat × Nat} {B:Nat} (hb:w.heap[b]? =some (.cells cs T fr)) (hB:b<B) (j:Nat) (u:Value) (hu:cs[j]? =some u):CellB B w b j u:=⟨hB,(Lib.cell_of_heap hb j).trans hu⟩
theorem rdE_at {w:World} {b B:Nat} {cs:Array Value} {T:TypeId} {fr:Nat × Nat} (hb:w.heap[b]? =some (.cells cs T fr)) (hB:b<B) (o:Nat) {k op n:Int} {name:ByteArray} {args:List Ex} {v:Value} (hn:vw n) (hs:qw B w v args)
 (h0:cs[o]? =some (.int .i64 k)) (h1:cs[o+1]? =some (.int .i64 op)) (h2:cs[o+2]? =some (.int .i64 n)) (h3:cs[o+3]? =some (.string name)) (h4:cs[o+4]? =some v):RdE B w (.mk k op n name args) b o:=by
 rw[RdE];exact⟨xc hb hB _ _ h0,xc hb hB _ _ h1,xc hb hB _ _ h2,xc hb hB _ _ h3,hn,v,xc hb hB _ _ h4,hs⟩
theorem slE_at1 {w:World} {b B:Nat} {k op n:Int} {name:ByteArray} {args:List Ex} {v:Value} {T:TypeId} {fr:Nat × Nat} (hb:w.heap[b]? =some (.cells #[.int .i64 k,.int .i64 op,.int .i64 n,.string name,v] T fr)) (hB:b<B) (hn:vw n) (hs:qw B w v args):
 qw B w (.slice (some ⟨b,0,none⟩) 1 1) [.mk k op n name args]:=by
 refine⟨_,1,rfl,by simp,fun _=>⟨b,0,rfl,?_⟩⟩;rw[jM,jM];exact⟨rdE_at hb hB 0 hn hs rfl rfl rfl rfl rfl,trivial⟩
theorem slE_at2 {w:World} {b B:Nat} {k op n k' op' n':Int} {name name':ByteArray} {args args':List Ex} {v v':Value} {T:TypeId} {fr:Nat × Nat}
 (hb:w.heap[b]? =some (.cells #[.int .i64 k,.int .i64 op,.int .i64 n,.string name,v,.int .i64 k',.int .i64 op',.int .i64 n',.string name',v'] T fr)) (hB:b<B) (hn:vw n) (hs:qw B w v args) (hn':vw n') (hs':qw B w v' args'):
 qw B w (.slice (some ⟨b,0,none⟩) 2 2) [.mk k op n name args,.mk k' op' n' name' args']:=by
 refine⟨_,2,rfl,by simp,fun _=>⟨b,0,rfl,?_⟩⟩;rw[jM,jM,jM];exact⟨rdE_at hb hB 0 hn hs rfl rfl rfl rfl rfl,rdE_at hb hB 5 hn' hs' rfl rfl rfl rfl rfl,trivial⟩
theorem zA (w:World) (o:Obj):(w.alloc o).heap.size=w.heap.size+1:=by simp
theorem ji (w:World) (a:Addr) (u:Value):(w.setCell a u).heap.size=w.heap.size:=by simp
def writ (w:World) (b:Nat) (c0 c1 c2 c3 c4:Value):World:=((((w.setCell ⟨b,0,none⟩ c0).setCell ⟨b,1,none⟩ c1).setCell ⟨b,2,none⟩ c2).setCell ⟨b,3,none⟩ c3).setCell ⟨b,4,none⟩ c4
theorem kJ (w:World) (b:Nat) (c0 c1 c2 c3 c4:Value):(writ w b c0 c1 c2 c3 c4).heap.size=w.heap.size:=by simp[writ]
theorem uf {w:World} {b:Nat} {d0 d1 d2 d3 d4:Value} {T:TypeId} {fr:Nat × Nat} (hb:w.heap[b]? =some (.cells #[d0,d1,d2,d3,d4] T fr)) (c0 c1 c2 c3 c4:Value):(writ w b c0 c1 c2 c3 c4).heap[b]? =some (.cells #[c0,c1,c2,c3,c4] T fr):=
 Lib.heap_setCell_same (Lib.heap_setCell_same (Lib.heap_setCell_same (Lib.heap_setCell_same (Lib.heap_setCell_same hb c0) c1) c2) c3) c4
theorem idxF_none {s:ByteArray}:∀ {l:List Fu},(∀ (j:Nat) f,l[j]? =some f→f.name≠s)→qN l s=none
 | [],_=>rfl
 | f :: r,h=>by
   rw[qN,if_neg (h 0 f rfl),idxF_none fun j g hg=>h (j+1) g hg];rfl
theorem idxF_some {s:ByteArray}:∀ {l:List Fu} {j:Nat} {f:Fu},(∀ (i:Nat) g,i<j→l[i]? =some g→g.name≠s)→l[j]? =some f→f.name=s→qN l s=some j
 | [],_,_,_,hj,_=>by simp at hj
 | g :: r,0,f,_,hj,e=>by
   simp at hj;subst hj;rw[qN,if_pos e]
 | g :: r,j+1,f,h,hj,e=>by
   rw[qN,if_neg (h 0 g (by omega) rfl),idxF_some (l:=r) (j:=j) (fun i x hi hx=>h (i+1) x (by omega) hx) (by simpa using hj) e];rfl
theorem idxA_none {s:ByteArray}:∀ {l:List Ar},(∀ (j:Nat) f,l[j]? =some f→f.name≠s)→qb l s=none
 | [],_=>rfl
 | f :: r,h=>by
   rw[qb,if_neg (h 0 f rfl),idxA_none fun j g hg=>h (j+1) g hg];rfl
theorem idxA_some {s:ByteArray}:∀ {l:List Ar} {j:Nat} {f:Ar},(∀ (i:Nat) g,i<j→l[i]? =some g→g.name≠s)→l[j]? =some f→f.name=s→qb l s=some j
 | [],_,_,_,hj,_=>by simp at hj
 | g :: r,0,f,_,hj,e=>by
   simp at hj;subst hj;rw[qb,if_pos e]
 | g :: r,j+1,f,h,hj,e=>by
   rw[qb,if_neg (h 0 g (by omega) rfl),idxA_some (l:=r) (j:=j) (fun i x hi hx=>h (i+1) x (by omega) hx) (by simpa using hj) e];rfl
theorem xO {s:ByteArray}:∀ {l:List Fu} {k:Nat},qN l s=some k→∃ f,l[k]? =some f∧f.name=s∧∀ (i:Nat) g,i<k→l[i]? =some g→g.name≠s
 | [],_,h=>by cases h
 | f :: r,k,h=>by
   rw[qN]at h;split at h
   · rename_i e
     injection h with h;subst h;exact⟨f,rfl,e,fun i g hi=>absurd hi (by omega)⟩
   · rename_i e
     cases hr:qN r s with
     | none=>rw[hr]at h;cases h
     | some j=>
       rw[hr]at h;obtain rfl:j+1=k:=by simpa using h
       obtain⟨g,h1,h2,h3⟩:=xO hr;refine⟨g,by simpa using h1,h2,fun i x hi hx=>?_⟩;cases i with
       | zero=>simp at hx;subst hx;exact e
       | succ i=>exact h3 i x (by omega) (by simpa using hx)
theorem kU {a b:ByteArray} (h:a=b):(a.toList == b.toList)=true:=by simp[h]
theorem kV {a b:ByteArray} (h:a≠b):(a.toList == b.toList)=false:=by
 rw[beq_eq_false_iff_ne];intro e;rw[Lib.toList_data,Lib.toList_data]at e;cases a;cases b
 simp_all
def NoF (l:List Fu) (s:ByteArray) (j:Nat):Prop:=∀ (i:Nat) g,i<j→l[i]? =some g→g.name≠s
def NoA (l:List Ar) (s:ByteArray) (j:Nat):Prop:=∀ (i:Nat) g,i<j→l[i]? =some g→g.name≠s
theorem NoF.zero (l:List Fu) (s:ByteArray):NoF l s 0:=fun i g hi=>absurd hi (by omega)
theorem NoA.zero (l:List Ar) (s:ByteArray):NoA l s 0:=fun i g hi=>absurd hi (by omega)
theorem NoF.succ {l:List Fu} {s:ByteArray} {j:Nat} {f:Fu} (h:NoF l s j) (hj:l[j]? =some f) (e:f.name≠s):NoF l s (j+1):=fun i g hi hg=>by
 by_cases hij:i=j
 · subst hij
   rw[hj]at hg;injection hg with hg;exact hg ▸ e
 · exact h i g (by omega) hg
theorem NoA.succ {l:List Ar} {s:ByteArray} {j:Nat} {f:Ar} (h:NoA l s j) (hj:l[j]? =some f) (e:f.name≠s):NoA l s (j+1):=fun i g hi hg=>by
 by_cases hij:i=j
 · subst hij
   rw[hj]at hg;injection hg with hg;exact hg ▸ e
 · exact h i g (by omega) hg
theorem NoF.all {l:List Fu} {s:ByteArray} {j:Nat} (h:NoF l s j) (hj:l.length≤j):qN l s=none:=idxF_none fun i g hg=>h i g (by have:=(List.getElem?_eq_some_iff.1 hg).1;omega) hg
theorem NoA.all {l:List Ar} {s:ByteArray} {j:Nat} (h:NoA l s j) (hj:l.length≤j):qb l s=none:=idxA_none fun i g hg=>h i g (by have:=(List.getElem?_eq_some_iff.1 hg).1;omega) hg
abbrev pgO (A0:Option Addr) (m0 c0:Nat) (A1:Option Addr) (m1 c1:Nat):Obj:=.cells #[.slice A0 m0 c0,.slice A1 m1 c1] 26
set_option maxHeartbeats 1000000 in
theorem place_any (B:Nat) (p:Pr) (s:ByteArray) (v0 v1:Value) (w:World) (hB:B≤w.heap.size) (ha:SlA B w v0 p.arrays) (hf:SlF B w v1 p.funcs):
 Calls Tryz.prog 73 #[.agg #[v0,v1],.string s] w fun e w'=>e=.returned (.int .i64 (jY (qN p.funcs s)))∧Below w.heap.size w w':=by
 obtain⟨A0,c0,rfl,_⟩:=ha.form;obtain⟨A1,c1,rfl,hn⟩:=hf.form;have HF:=hid hf;clear ha hf;go_enter Tryz.func73,Tryz.ntmps73;go_wp2_with (fail)
 go_loopw [9] (fun iv wr=>∃ j:Nat,j≤p.funcs.length∧iv=.int .i64 j∧NoF p.funcs s j∧wr=w.alloc (pgO A0 p.arrays.length c0 A1 p.funcs.length c1)) (fun iv _=>p.funcs.length-(intOf iv).toNat)
 case atStart=>exact⟨0,Nat.zero_le _,rfl,NoF.zero _ _,rfl⟩
 case round=>
  obtain⟨j,hj,rfl,hno,rfl⟩:=hrel;have HN:=hid hno;clear hno;by_cases hlt:j<p.funcs.length
  · obtain⟨x,hx⟩:∃ e,p.funcs[j]? =some e:=⟨_,List.getElem?_eq_getElem hlt⟩
    obtain⟨g,o,v2,v3,rfl,hg,q0,q1,q2,q3,hp,hb⟩:=(HF.out.below ((Below.refl B w).alloc hB (pgO A0 p.arrays.length c0 A1 p.funcs.length c1)) Zr).cells hx;have HX:=hid hx;have hgs:g<w.heap.size:=by omega
    clear hx hp hb;by_cases hs:x.name=s
    · have hd:=kU hs
      go_wp2_with (fail);go_ret;exact⟨zk (by rw[idxF_some HN.out HX.out hs];rfl),Zb.alloc Zr _⟩
    · have hd:=kV hs
      go_wp2_with (fail);go_roundw
      case rel=>exact⟨j+1,by omega,by go_num,HN.out.succ HX.out hs,trivial⟩
      case measure=>simp[intOf];omega
  · go_wp2_with (fail)
    go_ret;exact⟨zk (by rw[HN.out.all (by omega)];rfl),Zb.alloc Zr _⟩
set_option maxHeartbeats 1000000 in
theorem array_any (B:Nat) (p:Pr) (s:ByteArray) (v0 v1:Value) (w:World) (hB:B≤w.heap.size) (ha:SlA B w v0 p.arrays) (hf:SlF B w v1 p.funcs):
 Calls Tryz.prog 106 #[.agg #[v0,v1],.string s] w fun e w'=>e=.returned (.int .i64 (jY (qb p.arrays s)))∧Below w.heap.size w w':=by
 obtain⟨A0,c0,rfl,hn⟩:=ha.form;obtain⟨A1,c1,rfl,_⟩:=hf.form;have HA:=hid ha;clear ha hf;go_enter Tryz.func106,Tryz.ntmps106;go_wp2_with (fail)
 go_loopw [9] (fun iv wr=>∃ j:Nat,j≤p.arrays.length∧iv=.int .i64 j∧NoA p.arrays s j∧wr=w.alloc (pgO A0 p.arrays.length c0 A1 p.funcs.length c1)) (fun iv _=>p.arrays.length-(intOf iv).toNat)
 case atStart=>exact⟨0,Nat.zero_le _,rfl,NoA.zero _ _,rfl⟩
 case round=>
  obtain⟨j,hj,rfl,hno,rfl⟩:=hrel;have HN:=hid hno;clear hno;by_cases hlt:j<p.arrays.length
  · obtain⟨x,hx⟩:∃ e,p.arrays[j]? =some e:=⟨_,List.getElem?_eq_getElem hlt⟩
    obtain⟨g,o,rfl,hg,q0,q1⟩:=(HA.out.below ((Below.refl B w).alloc hB (pgO A0 p.arrays.length c0 A1 p.funcs.length c1)) Zr).cells hx;have HX:=hid hx;have hgs:g<w.heap.size:=by omega
    clear hx;by_cases hs:x.name=s
    · have hd:=kU hs
      go_wp2_with (fail);go_ret;exact⟨zk (by rw[idxA_some HN.out HX.out hs];rfl),Zb.alloc Zr _⟩
    · have hd:=kV hs
      go_wp2_with (fail);go_roundw
      case rel=>exact⟨j+1,by omega,by go_num,HN.out.succ HX.out hs,trivial⟩
      case measure=>simp[intOf];omega
  · go_wp2_with (fail)
    go_ret;exact⟨zk (by rw[HN.out.all (by omega)];rfl),Zb.alloc Zr _⟩
set_option maxHeartbeats 1000000 in
theorem rplace_any (B:Nat) (p:Pr) (s:ByteArray) (v0 v1:Value) (w:World) (hB:B≤w.heap.size) (ha:SlA B w v0 p.arrays) (hf:SlF B w v1 p.funcs):
 Calls Tryz.prog 64 #[.agg #[v0,v1],.string s] w fun e w'=>e=.returned (.int .i64 (jY (qN p.funcs s)))∧Below w.heap.size w w':=by
 obtain⟨A0,c0,rfl,_⟩:=ha.form;obtain⟨A1,c1,rfl,hn⟩:=hf.form;have HF:=hid hf;clear ha hf;go_enter Tryz.func64,Tryz.ntmps64;go_wp2_with (fail)
 go_loopw [5] (fun iv wr=>∃ j:Nat,j≤p.funcs.length∧iv=.int .i64 j∧NoF p.funcs s j∧wr=w.alloc (pgO A0 p.arrays.length c0 A1 p.funcs.length c1)) (fun iv _=>p.funcs.length-(intOf iv).toNat)
 case atStart=>exact⟨0,Nat.zero_le _,rfl,NoF.zero _ _,rfl⟩
 case round=>
  obtain⟨j,hj,rfl,hno,rfl⟩:=hrel;have HN:=hid hno;clear hno;by_cases hlt:j<p.funcs.length
  · obtain⟨x,hx⟩:∃ e,p.funcs[j]? =some e:=⟨_,List.getElem?_eq_getElem hlt⟩
    obtain⟨g,o,v2,v3,rfl,hg,q0,q1,q2,q3,hp,hb⟩:=(HF.out.below ((Below.refl B w).alloc hB (pgO A0 p.arrays.length c0 A1 p.funcs.length c1)) Zr).cells hx;have HX:=hid hx;have hgs:g<w.heap.size:=by omega
    clear hx hp hb;by_cases hs:x.name=s
    · have hd:=kU hs
      go_wp2_with (fail);go_ret;exact⟨zk (by rw[idxF_some HN.out HX.out hs];rfl),Zb.alloc Zr _⟩
    · have hd:=kV hs
      go_wp2_with (fail);go_roundw
      case rel=>exact⟨j+1,by omega,by go_num,HN.out.succ HX.out hs,trivial⟩
      case measure=>simp[intOf];omega
  · go_wp2_with (fail)
    go_ret;exact⟨zk (by rw[HN.out.all (by omega)];rfl),Zb.alloc Zr _⟩
set_option maxHeartbeats 1000000 in
theorem rarray_any (B:Nat) (p:Pr) (s:ByteArray) (v0 v1:Value) (w:World) (hB:B≤w.heap.size) (ha:SlA B w v0 p.arrays) (hf:SlF B w v1 p.funcs):
 Calls Tryz.prog 63 #[.agg #[v0,v1],.string s] w fun e w'=>e=.returned (.int .i64 (jY (qb p.arrays s)))∧Below w.heap.size w w':=by
 obtain⟨A0,c0,rfl,hn⟩:=ha.form;obtain⟨A1,c1,rfl,_⟩:=hf.form;have HA:=hid ha;clear ha hf;go_enter Tryz.func63,Tryz.ntmps63;go_wp2_with (fail)
 go_loopw [5] (fun iv wr=>∃ j:Nat,j≤p.arrays.length∧iv=.int .i64 j∧NoA p.arrays s j∧wr=w.alloc (pgO A0 p.arrays.length c0 A1 p.funcs.length c1)) (fun iv _=>p.arrays.length-(intOf iv).toNat)
 case atStart=>exact⟨0,Nat.zero_le _,rfl,NoA.zero _ _,rfl⟩
 case round=>
  obtain⟨j,hj,rfl,hno,rfl⟩:=hrel;have HN:=hid hno;clear hno;by_cases hlt:j<p.arrays.length
  · obtain⟨x,hx⟩:∃ e,p.arrays[j]? =some e:=⟨_,List.getElem?_eq_getElem hlt⟩
    obtain⟨g,o,rfl,hg,q0,q1⟩:=(HA.out.below ((Below.refl B w).alloc hB (pgO A0 p.arrays.length c0 A1 p.funcs.length c1)) Zr).cells hx;have HX:=hid hx;have hgs:g<w.heap.size:=by omega
    clear hx;by_cases hs:x.name=s
    · have hd:=kU hs
      go_wp2_with (fail);go_ret;exact⟨zk (by rw[idxA_some HN.out HX.out hs];rfl),Zb.alloc Zr _⟩
    · have hd:=kV hs
      go_wp2_with (fail);go_roundw
      case rel=>exact⟨j+1,by omega,by go_num,HN.out.succ HX.out hs,trivial⟩
      case measure=>simp[intOf];omega
  · go_wp2_with (fail)
    go_ret;exact⟨zk (by rw[HN.out.all (by omega)];rfl),Zb.alloc Zr _⟩
theorem ug (op:Int) (w:World):Calls Tryz.prog 121 #[.int .i64 op] w fun e w'=>e=.returned (.tuple #[.int .i64 (qj op),.int .i64 (x9 op)])∧w=w':=by
 by_cases h:op=18∨op=19∨op=22∨op=16∨op=17∨op=12∨op=13∨op=14∨op=15
 · rcases h with rfl | rfl | rfl | rfl | rfl | rfl | rfl | rfl | rfl
   all_goals
    go_enter Tryz.func121,Tryz.ntmps121;go_wp2_with (fail)
    go_ret2
    exact⟨rfl,rfl⟩
 · have n1:(op == 18)=false:=by simp;omega
   have n2:(op == 19)=false:=by simp;omega
   have n3:(op == 22)=false:=by simp;omega
   have n4:(op == 16)=false:=by simp;omega
   have n5:(op == 17)=false:=by simp;omega
   have n6:(op == 12)=false:=by simp;omega
   have n7:(op == 13)=false:=by simp;omega
   have n8:(op == 14)=false:=by simp;omega
   have n9:(op == 15)=false:=by simp;omega
   have e1:qj op=1:=by unfold qj;rw[if_neg (by omega),if_neg (by omega)]
   have e2:x9 op=1:=by unfold x9;rw[if_neg (by omega),if_neg (by omega),if_neg (by omega)]
   rw[e1,e2];clear h e1 e2;go_enter Tryz.func121,Tryz.ntmps121;go_wp2_with (fail)
   go_ret2
   exact⟨rfl,rfl⟩
set_option maxHeartbeats 1000000 in
theorem operand_any (op:Int) (w:World):Calls Tryz.prog 96 #[.int .i64 op] w fun e w'=>e=.returned (.tuple #[.int .i64 (qj op),.int .i64 (x9 op)])∧w=w':=by
 go_enter Tryz.func96,Tryz.ntmps96;go_wp2_with (fail)
 all_goals go_ret2
 all_goals refine⟨?_,rfl⟩
 all_goals go_light
 all_goals (unfold qj x9;simp_all;try omega)
def NoV (l:List Pa) (s:ByteArray) (k:Nat):Prop:=∀ (i:Nat) x,k≤i→l[i]? =some x→x.name≠s
theorem varT_none {s:ByteArray}:∀ {l:List Pa},(∀ (i:Nat) x,l[i]? =some x→x.name≠s)→z5 l s=none
 | [],_=>rfl
 | y :: r,h=>by
   rw[z5,varT_none (l:=r) fun i x hx=>h (i+1) x (by simpa using hx)];exact if_neg (h 0 y rfl)
theorem varT_some {s:ByteArray}:∀ {l:List Pa} {k:Nat} {x:Pa},NoV l s (k+1)→l[k]? =some x→x.name=s→z5 l s=some x.type
 | [],_,_,_,hk,_=>by simp at hk
 | y :: r,0,x,h,hk,e=>by
   simp at hk;subst hk;rw[z5,varT_none (l:=r) fun i z hz=>h (i+1) z (by omega) (by simpa using hz)];exact if_pos e
 | y :: r,k+1,x,h,hk,e=>by
   rw[z5,varT_some (l:=r) (k:=k) (fun i z hi hz=>h (i+1) z (by omega) (by simpa using hz)) (by simpa using hk) e]
theorem NoV.start (l:List Pa) (s:ByteArray):NoV l s l.length:=fun i x hi hx=>by have:=(List.getElem?_eq_some_iff.1 hx).1;omega
theorem NoV.step {l:List Pa} {s:ByteArray} {k:Nat} {x:Pa} (h:NoV l s (k+1)) (hk:l[k]? =some x) (e:x.name≠s):NoV l s k:=fun i z hi hz=>by
 by_cases hik:i=k
 · subst hik
   rw[hk]at hz;injection hz with hz;exact hz ▸ e
 · exact h i z (by omega) hz
theorem NoV.none {l:List Pa} {s:ByteArray} (h:NoV l s 0):z5 l s=Option.none:=varT_none fun i x hx=>h i x (Nat.zero_le _) hx
set_option maxHeartbeats 1000000 in
theorem rfind_any (B:Nat) (l:List Pa) (s:ByteArray) (v:Value) (w:World) (hB:B≤w.heap.size) (hl:SlP B w v l):
 Calls Tryz.prog 30 #[v,.string s] w fun e w'=>e=.returned (.tuple #[.int .i64 ((z5 l s).getD 0),.bool (z5 l s).isSome])∧w=w':=by
 obtain⟨A,c,rfl,hn⟩:=hl.form;have HL:=hid hl;clear hl;go_enter Tryz.func30,Tryz.ntmps30;go_wp2_with (fail)
 go_loopw [6] (fun iv wr=>∃ k:Nat,k≤l.length∧iv=.int .i64 ((k:Int)-1)∧NoV l s k∧wr=w) (fun iv _=>(intOf iv+1).toNat)
 case atStart=>exact⟨l.length,Nat.le_refl _,by go_num,NoV.start _ _,rfl⟩
 case round=>
  obtain⟨k,hk,rfl,hno,rfl⟩:=hrel;have HN:=hid hno;clear hno;rcases k with _ | k
  · go_wp2_with (fail)
    go_ret2
    exact⟨by rw[HN.out.none];rfl,rfl⟩
  · have e:((k+1 :Nat):Int)-1=(k:Int):=by omega
    rw[e];obtain⟨x,hx⟩:∃ e,l[k]? =some e:=⟨_,List.getElem?_eq_getElem (by omega)⟩
    obtain⟨g,o,rfl,hg,q0,q1⟩:=HL.out.cells hx;have HX:=hid hx;have hgs:g<wr.heap.size:=by omega
    clear hx e;by_cases hs:x.name=s
    · have hd:=kU hs
      go_wp2_with (fail)
      go_ret2
      exact⟨by rw[varT_some HN.out HX.out hs];rfl,rfl⟩
    · have hd:=kV hs
      go_wp2_with (fail);go_roundw
      case rel=>exact⟨k,by omega,by go_num,HN.out.step HX.out hs,trivial⟩
      case measure=>simp[intOf]
end Go.Proofs.YtfghofifjnbicaaGreatDoor
