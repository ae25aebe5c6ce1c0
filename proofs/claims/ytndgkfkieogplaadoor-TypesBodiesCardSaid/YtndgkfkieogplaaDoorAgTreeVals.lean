import Derived.Test.YtndgkfkieogplaaDoorAgTokRefA
import Derived.Lib.BufferMore
import Derived.Test.YtndgkfkieogplaaDoorAgTokMath
set_option linter.unusedSimpArgs false
set_option linter.unusedVariables false
set_option maxRecDepth 100000
/- How single values that are expressions, and slices of few, come to lie in memory. -/
namespace Go.Proofs.YtndgkfkieogplaaDoor
open Lib (hid)
open Go.RowKit
def vB (B:Nat) (w:World) (e:Ex) (x:Value):Prop:=∃ v,x=.agg #[.int .i64 e.kind,.int .i64 e.op,.int .i64 e.n,.string e.name,v]∧i64R e.n∧kf B w v e.args
theorem vB.below {B B':Nat} {w w':World} {e:Ex} {x:Value} (h:vB B w e x) (hb:Below B w w') (hB:B≤B'):vB B' w' e x:=by
 obtain⟨v,hx,hn,hs⟩:=h
 exact⟨v,hx,hn,hs.below hb hB⟩
theorem vC (B:Nat) (w:World):kf B w (.slice none 0 0) []:=⟨none,0,rfl,Nat.zero_le _,fun h=>absurd h (by simp)⟩
theorem slS_nil (B:Nat) (w:World):SlS B w (.slice none 0 0) []:=⟨none,0,rfl,Nat.zero_le _,fun h=>absurd h (by simp)⟩
theorem slA_nil (B:Nat) (w:World):SlA B w (.slice none 0 0) []:=⟨none,0,rfl,Nat.zero_le _,fun h=>absurd h (by simp)⟩
theorem yl {w:World} {b:Nat} {cs:Array Value} {T:TypeId} {fr:Nat × Nat} {B:Nat} (hb:w.heap[b]? =some (.cells cs T fr)) (hB:b<B) (j:Nat) (u:Value) (hu:cs[j]? =some u):CellB B w b j u:=⟨hB,(Lib.cell_of_heap hb j).trans hu⟩
theorem rdE_at {w:World} {b B:Nat} {cs:Array Value} {T:TypeId} {fr:Nat × Nat} (hb:w.heap[b]? =some (.cells cs T fr)) (hB:b<B) (o:Nat) {k op n:Int} {name:ByteArray} {args:List Ex} {v:Value} (hn:i64R n) (hs:kf B w v args)
 (h0:cs[o]? =some (.int .i64 k)) (h1:cs[o+1]? =some (.int .i64 op)) (h2:cs[o+2]? =some (.int .i64 n)) (h3:cs[o+3]? =some (.string name)) (h4:cs[o+4]? =some v):RdE B w (.mk k op n name args) b o:=by
 rw[RdE]
 exact⟨yl hb hB _ _ h0,yl hb hB _ _ h1,yl hb hB _ _ h2,yl hb hB _ _ h3,hn,v,yl hb hB _ _ h4,hs⟩
theorem slE_at1 {w:World} {b B:Nat} {k op n:Int} {name:ByteArray} {args:List Ex} {v:Value} {T:TypeId} {fr:Nat × Nat} (hb:w.heap[b]? =some (.cells #[.int .i64 k,.int .i64 op,.int .i64 n,.string name,v] T fr)) (hB:b<B) (hn:i64R n) (hs:kf B w v args):
 kf B w (.slice (some ⟨b,0,none⟩) 1 1) [.mk k op n name args]:=by
 refine⟨_,1,rfl,by simp,fun _=>⟨b,0,rfl,?_⟩⟩
 rw[jh,jh]
 exact⟨rdE_at hb hB 0 hn hs rfl rfl rfl rfl rfl,trivial⟩
theorem slE_at2 {w:World} {b B:Nat} {k op n k' op' n':Int} {name name':ByteArray} {args args':List Ex} {v v':Value} {T:TypeId} {fr:Nat × Nat}
 (hb:w.heap[b]? =some (.cells #[.int .i64 k,.int .i64 op,.int .i64 n,.string name,v,.int .i64 k',.int .i64 op',.int .i64 n',.string name',v'] T fr)) (hB:b<B) (hn:i64R n) (hs:kf B w v args) (hn':i64R n') (hs':kf B w v' args'):
 kf B w (.slice (some ⟨b,0,none⟩) 2 2) [.mk k op n name args,.mk k' op' n' name' args']:=by
 refine⟨_,2,rfl,by simp,fun _=>⟨b,0,rfl,?_⟩⟩
 rw[jh,jh,jh]
 exact⟨rdE_at hb hB 0 hn hs rfl rfl rfl rfl rfl,rdE_at hb hB 5 hn' hs' rfl rfl rfl rfl rfl,trivial⟩
theorem zA (w:World) (o:Obj):(w.alloc o).heap.size=w.heap.size+1:=by simp
def Kept (b:Nat) (w w':World):Prop:=w.heap.size≤w'.heap.size∧∀ g,g<w.heap.size→g≠b→w'.heap[g]? =w.heap[g]?
theorem Kept.refl (b:Nat) (w:World):Kept b w w:=⟨Nat.le_refl _,fun _ _ _=>rfl⟩
theorem Kept.trans {b:Nat} {w w' w2:World} (h:Kept b w w') (k:Kept b w' w2):Kept b w w2:=⟨Nat.le_trans h.1 k.1,fun g hg hn=>(k.2 g (Nat.lt_of_lt_of_le hg h.1) hn).trans (h.2 g hg hn)⟩
theorem Kept.alloc (b:Nat) (w:World) (o:Obj):Kept b w (w.alloc o):=⟨by rw[zA];omega,fun g hg _=>Below.heap_alloc w o g hg⟩
theorem jp (w:World) (a:Addr) (u:Value):(w.setCell a u).heap.size=w.heap.size:=by simp
theorem Kept.set (b j:Nat) (w:World) (u:Value):Kept b w (w.setCell ⟨b,j,none⟩ u):=⟨by rw[jp];omega,fun g hg hn=>Below.heap_setCell w _ u g hn⟩
def writ (w:World) (b:Nat) (c0 c1 c2 c3 c4:Value):World:=((((w.setCell ⟨b,0,none⟩ c0).setCell ⟨b,1,none⟩ c1).setCell ⟨b,2,none⟩ c2).setCell ⟨b,3,none⟩ c3).setCell ⟨b,4,none⟩ c4
theorem xM (w:World) (b:Nat) (c0 c1 c2 c3 c4:Value):(writ w b c0 c1 c2 c3 c4).heap.size=w.heap.size:=by simp[writ]
theorem writ_row {w:World} {b:Nat} {d0 d1 d2 d3 d4:Value} {T:TypeId} {fr:Nat × Nat} (hb:w.heap[b]? =some (.cells #[d0,d1,d2,d3,d4] T fr)) (c0 c1 c2 c3 c4:Value):(writ w b c0 c1 c2 c3 c4).heap[b]? =some (.cells #[c0,c1,c2,c3,c4] T fr):=
 Lib.heap_setCell_same (Lib.heap_setCell_same (Lib.heap_setCell_same (Lib.heap_setCell_same (Lib.heap_setCell_same hb c0) c1) c2) c3) c4
def qF:List Fu→ByteArray→Option Nat
 | [],_=>none
 | f :: r,s=>if f.name=s then some 0 else (qF r s).map (·+1)
def qg:List Ar→ByteArray→Option Nat
 | [],_=>none
 | a :: r,s=>if a.name=s then some 0 else (qg r s).map (·+1)
def jQ:Option Nat→Int
 | none=>-1
 | some k=>(k:Int)
def zi:List Pa→ByteArray→Option Int
 | [],_=>none
 | x :: r,s=>match zi r s with
   | some t=>some t
   | none=>if x.name=s then some x.type else none
def kn (p:Pr) (s:ByteArray):Option Fu:=(qF p.funcs s).bind fun k=>p.funcs[k]?
def qq (op:Int):Int:=if op=18∨op=19∨op=22 then 2 else if op=16∨op=17 then 0 else 1
def ym (op:Int):Int:=if op=18∨op=19∨op=22 then 2 else if op=16∨op=17 then 2 else if 12≤op∧op≤15 then 2 else 1
def kJ (p:Pr) (vars:List Pa) (k:Int) (s:ByteArray):Bool:=
 if k=3 then (zi vars s).isSome else if k=6 then (qg p.arrays s).isSome else if k=7 then (qF p.funcs s).isSome else true
def jn (p:Pr) (k:Int) (s:ByteArray) (n:Nat):Bool:=
 if k=7 then (match kn p s with | some f=>decide (n=f.params.length) | none=>true) else true
def qH (p:Pr) (vars:List Pa) (k op:Int) (s:ByteArray) (l:List Int):Int × Int:=
 if k=2 then (2,0)
 else if k=3 then ((zi vars s).getD 0,0)
 else if k=7 then (match kn p s with | some f=>if l=f.params.map (·.type) then (f.type,0) else (0,51) | none=>(0,51))
 else if k=6 then (if l.headD 0=1 then (1,0) else (0,51))
 else if k=4∨k=5 then (if l.all (fun t=>decide ((qq op=0∨t=qq op)∧t=l.headD 0)) then (ym op,0) else (0,51))
 else (1,0)
mutual
def zq (p:Pr) (vars:List Pa):Ex→Int × Int
 | .mk k op _ name args=>
   if kJ p vars k name=false then (0,50)
   else if jn p k name args.length=false then (0,51)
   else match zV p vars args with
    | .inl e=>(0,e)
    | .inr l=>qH p vars k op name l
def zV (p:Pr) (vars:List Pa):List Ex→Int ⊕ List Int
 | []=>.inr []
 | e :: r=>
   if (zq p vars e).2≠0 then .inl (zq p vars e).2
   else match zV p vars r with
    | .inl x=>.inl x
    | .inr l=>.inr ((zq p vars e).1 :: l)
end
def trueE:List Ex→Bool
 | .mk k _ n _ _ :: _=>decide (k=2) && decide (n=1)
 | []=>false
mutual
def brkS:St→Bool
 | .mk k _ _ _ thn els=>decide (k=6) || (decide (k=4) && (jb thn || jb els))
def jb:List St→Bool
 | []=>false
 | s :: r=>brkS s || jb r
end
mutual
def endS:St→Bool
 | .mk k _ _ args thn els=>decide (k=8) || (decide (k=4) && (qr thn && qr els)) || (decide (k=5) && (trueE args && !jb thn))
def qr:List St→Bool
 | []=>false
 | s :: r=>endS s || qr r
end
def qb (p:Pr) (vars:List Pa) (e:Ex) (t:Int):Int:=if (zq p vars e).2=0 then (if (zq p vars e).1=t then 0 else 51) else (zq p vars e).2
def vS:Ex:=.mk 1 0 0 ⟨#[]⟩ []
def qm (p:Pr) (ft:Int) (k ty:Int) (name:ByteArray) (args:List Ex) (vars:List Pa) (frm:Nat) (loop:Bool):Int:=
 if k=1 then (if qb p vars (args.getD 0 vS) ty=0 then (if (zi (vars.drop frm) name).isSome then 50 else 0) else qb p vars (args.getD 0 vS) ty)
 else if k=2 then (match zi vars name with | none=>50 | some t=>qb p vars (args.getD 0 vS) t)
 else if k=3 then (if (qg p.arrays name).isSome then (if qb p vars (args.getD 0 vS) 1=0 then qb p vars (args.getD 1 vS) 1 else qb p vars (args.getD 0 vS) 1) else 50)
 else if k=4∨k=5 then qb p vars (args.getD 0 vS) 2
 else if k=8 then qb p vars (args.getD 0 vS) ft
 else if k=9 then qb p vars (args.getD 0 vS) 1
 else if k=10 then (zq p vars (args.getD 0 vS)).2
 else if loop then 0 else 53
def xa (k ty:Int) (name:ByteArray) (vars:List Pa):List Pa:=if k=1 then vars++[⟨name,ty⟩] else vars
def letS:St→List Pa→List Pa
 | .mk k ty name _ _ _,vars=>xa k ty name vars
mutual
def uf (p:Pr) (ft:Int):St→List Pa→Nat→Bool→Nat→Int × Nat
 | .mk k ty name args thn els,vars,frm,loop,n=>
   if qm p ft k ty name args vars frm loop≠0 then (qm p ft k ty name args vars frm loop,n)
   else if (zU p ft thn (xa k ty name vars) (xa k ty name vars).length (loop || decide (k=5)) (n+1)).1≠0 then zU p ft thn (xa k ty name vars) (xa k ty name vars).length (loop || decide (k=5)) (n+1)
   else zU p ft els (xa k ty name vars) (xa k ty name vars).length loop (zU p ft thn (xa k ty name vars) (xa k ty name vars).length (loop || decide (k=5)) (n+1)).2
def zU (p:Pr) (ft:Int):List St→List Pa→Nat→Bool→Nat→Int × Nat
 | [],_,_,_,n=>(0,n)
 | s :: r,vars,frm,loop,n=>
   if (uf p ft s vars frm loop n).1≠0 then uf p ft s vars frm loop n
   else zU p ft r (letS s vars) frm loop (uf p ft s vars frm loop n).2
end
def dupP:List Pa→Bool
 | []=>false
 | x :: r=>(zi r x.name).isSome || dupP r
def kg (p:Pr) (f:Fu):Int × Nat:=
 if dupP f.params then (50,0)
 else if (zU p f.type f.body f.params f.params.length false 0).1≠0 then zU p f.type f.body f.params f.params.length false 0
 else if qr f.body then (0,0) else (52,(zU p f.type f.body f.params f.params.length false 0).2)
def xY (p:Pr):List Fu→Nat→Int × Nat × Nat
 | [],_=>(0,0,0)
 | f :: r,i=>if (kg p f).1≠0 then ((kg p f).1,i,(kg p f).2) else xY p r (i+1)
def zAd:List Fu→Bool
 | []=>false
 | f :: r=>(qF r f.name).isSome || zAd r
def ug (p:Pr):List Ar→Bool
 | []=>false
 | a :: r=>(qg r a.name).isSome || (qF p.funcs a.name).isSome || ug p r
def yI (p:Pr):Bool:=match kn p ⟨#[109,97,105,110]⟩ with | some f=>decide (f.type=1) && decide (f.params.length=0) | none=>false
def kC (p:Pr):Int × Nat × Nat:=
 if prOK p=false then (1,0,0)
 else if ug p p.arrays || zAd p.funcs || !yI p then (50,0,0)
 else xY p p.funcs 0
theorem idxF_none {s:ByteArray}:∀ {l:List Fu},(∀ (j:Nat) f,l[j]? =some f→f.name≠s)→qF l s=none
 | [],_=>rfl
 | f :: r,h=>by
   rw[qF,if_neg (h 0 f rfl),idxF_none fun j g hg=>h (j+1) g hg]
   rfl
theorem idxF_some {s:ByteArray}:∀ {l:List Fu} {j:Nat} {f:Fu},(∀ (i:Nat) g,i<j→l[i]? =some g→g.name≠s)→l[j]? =some f→f.name=s→qF l s=some j
 | [],_,_,_,hj,_=>by simp at hj
 | g :: r,0,f,_,hj,e=>by
   simp at hj
   subst hj
   rw[qF,if_pos e]
 | g :: r,j+1,f,h,hj,e=>by
   rw[qF,if_neg (h 0 g (by omega) rfl),idxF_some (l:=r) (j:=j) (fun i x hi hx=>h (i+1) x (by omega) hx) (by simpa using hj) e]
   rfl
theorem idxA_none {s:ByteArray}:∀ {l:List Ar},(∀ (j:Nat) f,l[j]? =some f→f.name≠s)→qg l s=none
 | [],_=>rfl
 | f :: r,h=>by
   rw[qg,if_neg (h 0 f rfl),idxA_none fun j g hg=>h (j+1) g hg]
   rfl
theorem idxA_some {s:ByteArray}:∀ {l:List Ar} {j:Nat} {f:Ar},(∀ (i:Nat) g,i<j→l[i]? =some g→g.name≠s)→l[j]? =some f→f.name=s→qg l s=some j
 | [],_,_,_,hj,_=>by simp at hj
 | g :: r,0,f,_,hj,e=>by
   simp at hj
   subst hj
   rw[qg,if_pos e]
 | g :: r,j+1,f,h,hj,e=>by
   rw[qg,if_neg (h 0 g (by omega) rfl),idxA_some (l:=r) (j:=j) (fun i x hi hx=>h (i+1) x (by omega) hx) (by simpa using hj) e]
   rfl
theorem yS {s:ByteArray}:∀ {l:List Fu} {k:Nat},qF l s=some k→∃ f,l[k]? =some f∧f.name=s∧∀ (i:Nat) g,i<k→l[i]? =some g→g.name≠s
 | [],_,h=>by cases h
 | f :: r,k,h=>by
   rw[qF]at h
   split at h
   · rename_i e
     injection h with h
     subst h
     exact⟨f,rfl,e,fun i g hi=>absurd hi (by omega)⟩
   · rename_i e
     cases hr:qF r s with
     | none=>rw[hr]at h;cases h
     | some j=>
       rw[hr]at h
       obtain rfl:j+1=k:=by simpa using h
       obtain⟨g,h1,h2,h3⟩:=yS hr
       refine⟨g,by simpa using h1,h2,fun i x hi hx=>?_⟩
       cases i with
       | zero=>simp at hx;subst hx;exact e
       | succ i=>exact h3 i x (by omega) (by simpa using hx)
theorem vj {a b:ByteArray} (h:a=b):(a.toList == b.toList)=true:=by simp[h]
theorem vk {a b:ByteArray} (h:a≠b):(a.toList == b.toList)=false:=by
 rw[beq_eq_false_iff_ne]
 intro e
 rw[Lib.toList_data,Lib.toList_data]at e
 cases a
 cases b
 simp_all
def NoF (l:List Fu) (s:ByteArray) (j:Nat):Prop:=∀ (i:Nat) g,i<j→l[i]? =some g→g.name≠s
def NoA (l:List Ar) (s:ByteArray) (j:Nat):Prop:=∀ (i:Nat) g,i<j→l[i]? =some g→g.name≠s
theorem NoF.zero (l:List Fu) (s:ByteArray):NoF l s 0:=fun i g hi=>absurd hi (by omega)
theorem NoA.zero (l:List Ar) (s:ByteArray):NoA l s 0:=fun i g hi=>absurd hi (by omega)
theorem NoF.succ {l:List Fu} {s:ByteArray} {j:Nat} {f:Fu} (h:NoF l s j) (hj:l[j]? =some f) (e:f.name≠s):NoF l s (j+1):=fun i g hi hg=>by
 by_cases hij:i=j
 · subst hij
   rw[hj]at hg
   injection hg with hg
   exact hg ▸ e
 · exact h i g (by omega) hg
theorem NoA.succ {l:List Ar} {s:ByteArray} {j:Nat} {f:Ar} (h:NoA l s j) (hj:l[j]? =some f) (e:f.name≠s):NoA l s (j+1):=fun i g hi hg=>by
 by_cases hij:i=j
 · subst hij
   rw[hj]at hg
   injection hg with hg
   exact hg ▸ e
 · exact h i g (by omega) hg
theorem NoF.all {l:List Fu} {s:ByteArray} {j:Nat} (h:NoF l s j) (hj:l.length≤j):qF l s=none:=idxF_none fun i g hg=>h i g (by have:=(List.getElem?_eq_some_iff.1 hg).1;omega) hg
theorem NoA.all {l:List Ar} {s:ByteArray} {j:Nat} (h:NoA l s j) (hj:l.length≤j):qg l s=none:=idxA_none fun i g hg=>h i g (by have:=(List.getElem?_eq_some_iff.1 hg).1;omega) hg
abbrev ze (A0:Option Addr) (m0 c0:Nat) (A1:Option Addr) (m1 c1:Nat):Obj:=.cells #[.slice A0 m0 c0,.slice A1 m1 c1] 26
set_option maxHeartbeats 1000000 in
theorem place_any (B:Nat) (p:Pr) (s:ByteArray) (v0 v1:Value) (w:World) (hB:B≤w.heap.size) (ha:SlA B w v0 p.arrays) (hf:SlF B w v1 p.funcs):
 Calls Tryd.prog 20 #[.agg #[v0,v1],.string s] w fun e w'=>e=.returned (.int .i64 (jQ (qF p.funcs s)))∧Below w.heap.size w w':=by
 obtain⟨A0,c0,rfl,_⟩:=ha.form
 obtain⟨A1,c1,rfl,hn⟩:=hf.form
 have HF:=hid hf
 clear ha hf
 go_enter Tryd.func20,Tryd.ntmps20
 go_wp2_with (fail)
 go_loopw [9] (fun iv wr=>∃ j:Nat,j≤p.funcs.length∧iv=.int .i64 j∧NoF p.funcs s j∧wr=w.alloc (ze A0 p.arrays.length c0 A1 p.funcs.length c1)) (fun iv _=>p.funcs.length-(intOf iv).toNat)
 case atStart=>exact⟨0,Nat.zero_le _,rfl,NoF.zero _ _,rfl⟩
 case round=>
  obtain⟨j,hj,rfl,hno,rfl⟩:=hrel
  have HN:=hid hno
  clear hno
  by_cases hlt:j<p.funcs.length
  · obtain⟨x,hx⟩:∃ e,p.funcs[j]? =some e:=⟨_,List.getElem?_eq_getElem hlt⟩
    obtain⟨g,o,v2,v3,rfl,hg,q0,q1,q2,q3,hp,hb⟩:=(HF.out.below ((Below.refl B w).alloc hB (ze A0 p.arrays.length c0 A1 p.funcs.length c1)) (Nat.le_refl _)).cells hx
    have HX:=hid hx
    have hgs:g<w.heap.size:=by omega
    clear hx hp hb
    by_cases hs:x.name=s
    · have hd:=vj hs
      go_wp2_with (fail)
      go_ret
      exact⟨zt (by rw[idxF_some HN.out HX.out hs];rfl),(Below.refl _ _).alloc (Nat.le_refl _) _⟩
    · have hd:=vk hs
      go_wp2_with (fail)
      go_roundw
      case rel=>exact⟨j+1,by omega,by go_num,HN.out.succ HX.out hs,trivial⟩
      case measure=>simp[intOf];omega
  · go_wp2_with (fail)
    go_ret
    exact⟨zt (by rw[HN.out.all (by omega)];rfl),(Below.refl _ _).alloc (Nat.le_refl _) _⟩
set_option maxHeartbeats 1000000 in
theorem array_any (B:Nat) (p:Pr) (s:ByteArray) (v0 v1:Value) (w:World) (hB:B≤w.heap.size) (ha:SlA B w v0 p.arrays) (hf:SlF B w v1 p.funcs):
 Calls Tryd.prog 21 #[.agg #[v0,v1],.string s] w fun e w'=>e=.returned (.int .i64 (jQ (qg p.arrays s)))∧Below w.heap.size w w':=by
 obtain⟨A0,c0,rfl,hn⟩:=ha.form
 obtain⟨A1,c1,rfl,_⟩:=hf.form
 have HA:=hid ha
 clear ha hf
 go_enter Tryd.func21,Tryd.ntmps21
 go_wp2_with (fail)
 go_loopw [9] (fun iv wr=>∃ j:Nat,j≤p.arrays.length∧iv=.int .i64 j∧NoA p.arrays s j∧wr=w.alloc (ze A0 p.arrays.length c0 A1 p.funcs.length c1)) (fun iv _=>p.arrays.length-(intOf iv).toNat)
 case atStart=>exact⟨0,Nat.zero_le _,rfl,NoA.zero _ _,rfl⟩
 case round=>
  obtain⟨j,hj,rfl,hno,rfl⟩:=hrel
  have HN:=hid hno
  clear hno
  by_cases hlt:j<p.arrays.length
  · obtain⟨x,hx⟩:∃ e,p.arrays[j]? =some e:=⟨_,List.getElem?_eq_getElem hlt⟩
    obtain⟨g,o,rfl,hg,q0,q1⟩:=(HA.out.below ((Below.refl B w).alloc hB (ze A0 p.arrays.length c0 A1 p.funcs.length c1)) (Nat.le_refl _)).cells hx
    have HX:=hid hx
    have hgs:g<w.heap.size:=by omega
    clear hx
    by_cases hs:x.name=s
    · have hd:=vj hs
      go_wp2_with (fail)
      go_ret
      exact⟨zt (by rw[idxA_some HN.out HX.out hs];rfl),(Below.refl _ _).alloc (Nat.le_refl _) _⟩
    · have hd:=vk hs
      go_wp2_with (fail)
      go_roundw
      case rel=>exact⟨j+1,by omega,by go_num,HN.out.succ HX.out hs,trivial⟩
      case measure=>simp[intOf];omega
  · go_wp2_with (fail)
    go_ret
    exact⟨zt (by rw[HN.out.all (by omega)];rfl),(Below.refl _ _).alloc (Nat.le_refl _) _⟩
set_option maxHeartbeats 1000000 in
theorem rplace_any (B:Nat) (p:Pr) (s:ByteArray) (v0 v1:Value) (w:World) (hB:B≤w.heap.size) (ha:SlA B w v0 p.arrays) (hf:SlF B w v1 p.funcs):
 Calls Tryd.prog 54 #[.agg #[v0,v1],.string s] w fun e w'=>e=.returned (.int .i64 (jQ (qF p.funcs s)))∧Below w.heap.size w w':=by
 obtain⟨A0,c0,rfl,_⟩:=ha.form
 obtain⟨A1,c1,rfl,hn⟩:=hf.form
 have HF:=hid hf
 clear ha hf
 go_enter Tryd.func54,Tryd.ntmps54
 go_wp2_with (fail)
 go_loopw [5] (fun iv wr=>∃ j:Nat,j≤p.funcs.length∧iv=.int .i64 j∧NoF p.funcs s j∧wr=w.alloc (ze A0 p.arrays.length c0 A1 p.funcs.length c1)) (fun iv _=>p.funcs.length-(intOf iv).toNat)
 case atStart=>exact⟨0,Nat.zero_le _,rfl,NoF.zero _ _,rfl⟩
 case round=>
  obtain⟨j,hj,rfl,hno,rfl⟩:=hrel
  have HN:=hid hno
  clear hno
  by_cases hlt:j<p.funcs.length
  · obtain⟨x,hx⟩:∃ e,p.funcs[j]? =some e:=⟨_,List.getElem?_eq_getElem hlt⟩
    obtain⟨g,o,v2,v3,rfl,hg,q0,q1,q2,q3,hp,hb⟩:=(HF.out.below ((Below.refl B w).alloc hB (ze A0 p.arrays.length c0 A1 p.funcs.length c1)) (Nat.le_refl _)).cells hx
    have HX:=hid hx
    have hgs:g<w.heap.size:=by omega
    clear hx hp hb
    by_cases hs:x.name=s
    · have hd:=vj hs
      go_wp2_with (fail)
      go_ret
      exact⟨zt (by rw[idxF_some HN.out HX.out hs];rfl),(Below.refl _ _).alloc (Nat.le_refl _) _⟩
    · have hd:=vk hs
      go_wp2_with (fail)
      go_roundw
      case rel=>exact⟨j+1,by omega,by go_num,HN.out.succ HX.out hs,trivial⟩
      case measure=>simp[intOf];omega
  · go_wp2_with (fail)
    go_ret
    exact⟨zt (by rw[HN.out.all (by omega)];rfl),(Below.refl _ _).alloc (Nat.le_refl _) _⟩
set_option maxHeartbeats 1000000 in
theorem rarray_any (B:Nat) (p:Pr) (s:ByteArray) (v0 v1:Value) (w:World) (hB:B≤w.heap.size) (ha:SlA B w v0 p.arrays) (hf:SlF B w v1 p.funcs):
 Calls Tryd.prog 53 #[.agg #[v0,v1],.string s] w fun e w'=>e=.returned (.int .i64 (jQ (qg p.arrays s)))∧Below w.heap.size w w':=by
 obtain⟨A0,c0,rfl,hn⟩:=ha.form
 obtain⟨A1,c1,rfl,_⟩:=hf.form
 have HA:=hid ha
 clear ha hf
 go_enter Tryd.func53,Tryd.ntmps53
 go_wp2_with (fail)
 go_loopw [5] (fun iv wr=>∃ j:Nat,j≤p.arrays.length∧iv=.int .i64 j∧NoA p.arrays s j∧wr=w.alloc (ze A0 p.arrays.length c0 A1 p.funcs.length c1)) (fun iv _=>p.arrays.length-(intOf iv).toNat)
 case atStart=>exact⟨0,Nat.zero_le _,rfl,NoA.zero _ _,rfl⟩
 case round=>
  obtain⟨j,hj,rfl,hno,rfl⟩:=hrel
  have HN:=hid hno
  clear hno
  by_cases hlt:j<p.arrays.length
  · obtain⟨x,hx⟩:∃ e,p.arrays[j]? =some e:=⟨_,List.getElem?_eq_getElem hlt⟩
    obtain⟨g,o,rfl,hg,q0,q1⟩:=(HA.out.below ((Below.refl B w).alloc hB (ze A0 p.arrays.length c0 A1 p.funcs.length c1)) (Nat.le_refl _)).cells hx
    have HX:=hid hx
    have hgs:g<w.heap.size:=by omega
    clear hx
    by_cases hs:x.name=s
    · have hd:=vj hs
      go_wp2_with (fail)
      go_ret
      exact⟨zt (by rw[idxA_some HN.out HX.out hs];rfl),(Below.refl _ _).alloc (Nat.le_refl _) _⟩
    · have hd:=vk hs
      go_wp2_with (fail)
      go_roundw
      case rel=>exact⟨j+1,by omega,by go_num,HN.out.succ HX.out hs,trivial⟩
      case measure=>simp[intOf];omega
  · go_wp2_with (fail)
    go_ret
    exact⟨zt (by rw[HN.out.all (by omega)];rfl),(Below.refl _ _).alloc (Nat.le_refl _) _⟩
end Go.Proofs.YtndgkfkieogplaaDoor
