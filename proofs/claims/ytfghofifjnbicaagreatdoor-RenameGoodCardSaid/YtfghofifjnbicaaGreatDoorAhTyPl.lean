import Derived.Test.YtfghofifjnbicaaGreatDoorAhZed
import Derived.Test.YtfghofifjnbicaaGreatDoorAhTyLnk
import Derived.OwnWalk
import Derived.Laws.OwnMore
import Derived.BigQuiet
import Derived.Deep.RegionHeld3
import Derived.Deep.QuietTactic
set_option linter.unusedSimpArgs false
set_option linter.unusedVariables false
set_option maxRecDepth 100000
/- Expressions' types as package types reckons them: the form of a node, then its operands: of the plain answers. -/
namespace Go.Proofs.YtfghofifjnbicaaGreatDoor
open Lib (hid)
open Go.RowKit
theorem fE_one {op n:Int} {name:ByteArray} {args:List Ex} (h:zh 4 op n name args.length=true):∃ a,args=[a]:=by
 simp[zh]at h;exact List.length_eq_one_iff.1 h.2
theorem fE_two {op n:Int} {name:ByteArray} {args:List Ex} (h:zh 5 op n name args.length=true):∃ a c,args=[a,c]:=by
 simp[zh]at h
 match args,h.2 with
 | [a,c],_=>exact⟨a,c,rfl⟩
theorem ul {op n:Int} {name:ByteArray} {args:List Ex} (h:zh 6 op n name args.length=true):∃ a,args=[a]:=by
 simp[zh]at h;exact List.length_eq_one_iff.1 h.2
theorem xQ {k op n:Int} {name:ByteArray} {m:Nat} (h:zh k op n name m=true):k=1∨k=2∨k=3∨k=4∨k=5∨k=6∨k=7∨k=8:=by
 by_cases h':k=1∨k=2∨k=3∨k=4∨k=5∨k=6∨k=7∨k=8
 · exact h'
 · exfalso
   unfold zh at h;rw[if_neg (by omega),if_neg (by omega),if_neg (by omega),if_neg (by omega),if_neg (by omega),if_neg (by omega),if_neg (by omega),if_neg (by omega)]at h;cases h
def FitN (takes l:List Int) (j:Nat):Prop:=∀ (i:Nat) t x,i<j→takes[i]? =some t→l[i]? =some x→x=if t=0 then l.headD 0 else t
theorem FitN.zero (takes l:List Int):FitN takes l 0:=fun i t x hi=>absurd hi (by omega)
theorem FitN.succ {takes l:List Int} {j:Nat} {t x:Int} (h:FitN takes l j) (ht:takes[j]? =some t) (hx:l[j]? =some x) (e:x=if t=0 then l.headD 0 else t):FitN takes l (j+1):=fun i t' x' hi h1 h2=>by
 by_cases hij:i=j
 · subst hij
   rw[ht]at h1;rw[hx]at h2;injection h1 with h1;injection h2 with h2;rw[←h1,←h2];exact e
 · exact h i t' x' (by omega) h1 h2
theorem typEs_len {p:Pr} {vars:List Pa}:∀ {args:List Ex} {l:List Int},zi p vars args=.inr l→l.length=args.length
 | [],l,h=>by
   rw[zi]at h;injection h with h;subst h;rfl
 | e :: r,l,h=>by
   rw[zi]at h;split at h
   · cases h
   · cases hr:zi p vars r with
     | inl x=>rw[hr]at h;cases h
     | inr l'=>
       rw[hr]at h;injection h with h;subst h;rw[List.length_cons,List.length_cons,typEs_len hr]
theorem typEs_app {p:Pr} {vars:List Pa}:∀ (a b:List Ex) {l:List Int},zi p vars a=.inr l→zi p vars (a++b)=match zi p vars b with | .inl x=>.inl x | .inr l'=>.inr (l++l')
 | [],b,l,h=>by
   rw[zi]at h;injection h with h;subst h;rw[List.nil_append];cases zi p vars b <;> rfl
 | e :: r,b,l,h=>by
   rw[zi]at h;split at h
   · cases h
   · rename_i h0
     cases hr:zi p vars r with
     | inl x=>rw[hr]at h;cases h
     | inr l'=>
       rw[hr]at h;injection h with h;subst h;rw[List.cons_append,zi,if_neg h0,typEs_app r b hr];cases zi p vars b <;> rfl
theorem typEs_one {p:Pr} {vars:List Pa} (e:Ex):zi p vars [e]=if (qI p vars e).2≠0 then .inl (qI p vars e).2 else .inr [(qI p vars e).1]:=by
 rw[zi,zi]
theorem ya {p:Pr} {vars:List Pa} {args:List Ex} {j:Nat} {e:Ex} {l:List Int} (h:zi p vars (args.take j)=.inr l) (he:args[j]? =some e) (h0:(qI p vars e).2=0):zi p vars (args.take (j+1))=.inr (l++[(qI p vars e).1]):=by
 rw[List.take_add_one,he,Option.toList_some,typEs_app _ _ h,typEs_one,if_neg (by simpa using h0)]
theorem vg {p:Pr} {vars:List Pa} {args:List Ex} {j:Nat} {e:Ex} {l:List Int} (h:zi p vars (args.take j)=.inr l) (he:args[j]? =some e) (h0:(qI p vars e).2≠0):zi p vars args=.inl (qI p vars e).2:=by
 obtain⟨hlt,hge⟩:=List.getElem?_eq_some_iff.1 he;have hd:args.drop j=e :: args.drop (j+1):=by rw[List.drop_eq_getElem_cons hlt,hge]
 have e1:args=args.take j++(e :: args.drop (j+1)):=by rw[←hd,List.take_append_drop]
 rw[e1,typEs_app _ _ h,zi,if_pos h0]
section
variable {p:Pr} {vars:List Pa} {k op n:Int} {s:ByteArray} {args:List Ex}
theorem kr:qI p vars (.mk k op n s args)=if jx p vars k s=false then (0,50) else if kd p k s args.length=false then (0,51) else match zi p vars args with | .inl e=>(0,e) | .inr l=>qu p vars k op s l:=by
 rw[qI];cases zi p vars args <;> rfl
theorem qm (hf:zh k op n s args.length=true) (hk:k=1∨k=2∨k=3∨k=8):args=[]:=by
 refine List.eq_nil_of_length_eq_zero ?_;rcases hk with rfl | rfl | rfl | rfl <;> (simp[zh]at hf;first | exact hf.2 | (simp_all))
theorem dev_name (hf:zh k op n s args.length=true) (h:(z9 p vars k op s).2.2≠0):qI p vars (.mk k op n s args)=(0,(z9 p vars k op s).2.2):=by
 rw[kr];rcases xQ hf with rfl | rfl | rfl | rfl | rfl | rfl | rfl | rfl
 · simp[z9]at h
 · simp[z9]at h
 · cases hv:z5 vars s with
   | none=>simp[z9,jx,hv]
   | some t=>simp[z9,hv]at h
 · simp[z9]at h
 · simp[z9]at h
 · cases hv:qb p.arrays s with
   | none=>simp[z9,jx,hv]
   | some t=>simp[z9,hv]at h
 · cases hv:qN p.funcs s with
   | none=>simp[z9,jx,cfT,xK,hv]
   | some j=>
     obtain⟨f,hj,_⟩:=xO hv;simp[z9,cfT,xK,hv,hj]at h
 · simp[z9]at h
theorem dev_count (hf:zh k op n s args.length=true) (h:(z9 p vars k op s).2.2=0) (hc:(z9 p vars k op s).1.length≠args.length):qI p vars (.mk k op n s args)=(0,51):=by
 rw[kr];rcases xQ hf with rfl | rfl | rfl | rfl | rfl | rfl | rfl | rfl
 · have:=qm hf (by decide);subst this;simp[z9]at hc
 · have:=qm hf (by decide);subst this;simp[z9]at hc
 · have:=qm hf (by decide)
   subst this;cases hv:z5 vars s with
   | none=>simp[z9,hv]at h
   | some t=>simp[z9,hv]at hc
 · obtain⟨a,rfl⟩:=fE_one hf;simp[z9]at hc
 · obtain⟨a,c,rfl⟩:=fE_two hf;simp[z9]at hc
 · obtain⟨a,rfl⟩:=ul hf
   cases hv:qb p.arrays s with
   | none=>simp[z9,hv]at h
   | some t=>simp[z9,hv]at hc
 · cases hv:qN p.funcs s with
   | none=>simp[z9,cfT,xK,hv]at h
   | some j=>
     obtain⟨f,hj,_⟩:=xO hv;simp[z9,cfT,xK,hv,hj]at hc;simp[jx,kd,xK,hv,hj];intro hx;exact absurd hx.symm hc
 · have:=qm hf (by decide);subst this;simp[z9]at hc
theorem dev_pre (hf:zh k op n s args.length=true) (h:(z9 p vars k op s).2.2=0) (hc:(z9 p vars k op s).1.length=args.length):qI p vars (.mk k op n s args)=match zi p vars args with | .inl e=>(0,e) | .inr l=>qu p vars k op s l:=by
 rw[kr];rcases xQ hf with rfl | rfl | rfl | rfl | rfl | rfl | rfl | rfl
 · simp[jx,kd]
 · simp[jx,kd]
 · cases hv:z5 vars s with
   | none=>simp[z9,hv]at h
   | some t=>simp[jx,kd,hv]
 · simp[jx,kd]
 · simp[jx,kd]
 · cases hv:qb p.arrays s with
   | none=>simp[z9,hv]at h
   | some t=>simp[jx,kd,hv]
 · cases hv:qN p.funcs s with
   | none=>simp[z9,cfT,xK,hv]at h
   | some j=>
     obtain⟨f,hj,_⟩:=xO hv;simp[z9,cfT,xK,hv,hj]at hc;simp[jx,kd,xK,hv,hj,hc]
 · simp[jx,kd]
theorem dev_arg (hf:zh k op n s args.length=true) (h:(z9 p vars k op s).2.2=0) (hc:(z9 p vars k op s).1.length=args.length) {e:Int} (ha:zi p vars args=.inl e):qI p vars (.mk k op n s args)=(0,e):=by
 rw[dev_pre hf h hc,ha]
theorem fit_call {takes l:List Int} (hl:l.length=takes.length) (ht:∀ t ∈ takes,t≠0):FitN takes l takes.length↔l=takes:=by
 constructor
 · intro h
   refine List.ext_getElem hl fun i h1 h2=>?_
   have:=h i takes[i] l[i] h2 (List.getElem?_eq_getElem h2) (List.getElem?_eq_getElem h1);rwa [if_neg (ht _ (List.getElem_mem h2))]at this
 · rintro rfl i t x hi h1 h2
   rw[h1]at h2;injection h2 with h2;rw[←h2,if_neg (ht t (List.mem_of_getElem? h1))]
theorem dev_node (hp:ui p) (hf:zh k op n s args.length=true) (h:(z9 p vars k op s).2.2=0) (hc:(z9 p vars k op s).1.length=args.length) {l:List Int} (ha:zi p vars args=.inr l):
 (FitN (z9 p vars k op s).1 l (z9 p vars k op s).1.length→qI p vars (.mk k op n s args)=((z9 p vars k op s).2.1,0))∧(¬ FitN (z9 p vars k op s).1 l (z9 p vars k op s).1.length→qI p vars (.mk k op n s args)=(0,51)):=by
 have hl:=typEs_len ha;rw[dev_pre hf h hc,ha];dsimp only;rcases xQ hf with rfl | rfl | rfl | rfl | rfl | rfl | rfl | rfl
 · refine⟨fun _=>by simp[z9,qu],fun hn=>absurd (fun i t x hi=>?_) hn⟩
   simp[z9]at hi
 · refine⟨fun _=>by simp[z9,qu],fun hn=>absurd (fun i t x hi=>?_) hn⟩
   simp[z9]at hi
 · cases hv:z5 vars s with
   | none=>simp[z9,hv]at h
   | some t=>
     refine⟨fun _=>by simp[z9,qu,hv],fun hn=>absurd (fun i t x hi=>?_) hn⟩;simp[z9,hv]at hi
 · obtain⟨a,rfl⟩:=fE_one hf
   match l,hl with
   | [x],_=>
     refine⟨fun hfit=>?_,fun hn=>?_⟩
     · have:=hfit 0 (qj op) x (by simp[z9]) (by simp[z9]) rfl
       simp only[List.headD_cons]at this;simp only[z9,qu,List.all_cons,List.all_nil];by_cases h0:qj op=0
       · simp[h0]
       · rw[if_neg h0]at this
         simp[this]
     · by_cases h0:qj op=0∨x=qj op
       · exfalso
         refine hn fun i t y hi h1 h2=>?_
         simp[z9]at hi h1;subst hi;simp at h1 h2;subst h1 h2;split
         · rfl
         · rename_i h3;exact h0.resolve_left h3
       · simp[z9,qu,h0]
 · obtain⟨a,c,rfl⟩:=fE_two hf
   match l,hl with
   | [x,y],_=>
     refine⟨fun hfit=>?_,fun hn=>?_⟩
     · have h1:=hfit 0 (qj op) x (by simp[z9]) (by simp[z9]) rfl
       have h2:=hfit 1 (qj op) y (by simp[z9]) (by simp[z9]) rfl;simp only[List.headD_cons]at h1 h2;simp only[z9,qu,List.all_cons,List.all_nil];by_cases h0:qj op=0
       · rw[if_pos h0]at h2
         simp[h0,h2]
       · rw[if_neg h0]at h1 h2
         simp[h1,h2]
     · by_cases h0:(qj op=0∨x=qj op)∧(qj op=0∨y=qj op)∧y=x
       · exfalso
         refine hn fun i t z hi h1 h2=>?_
         simp[z9]at hi h1
         match i,hi with
         | 0,_=>
           simp at h1 h2;subst h1 h2;split
           · rfl
           · rename_i h3;exact h0.1.resolve_left h3
         | 1,_=>
           simp at h1 h2;subst h1 h2;split
           · simpa using h0.2.2
           · rename_i h3;exact h0.2.1.resolve_left h3
       · simp only[z9,qu,List.all_cons,List.all_nil,List.headD_cons]
         simp;intro h4;exact decide_eq_false fun h5=>h0 ⟨h4,h5.1,h5.2⟩
 · obtain⟨a,rfl⟩:=ul hf
   cases hv:qb p.arrays s with
   | none=>simp[z9,hv]at h
   | some q=>
     match l,hl with
     | [x],_=>
       refine⟨fun hfit=>?_,fun hn=>?_⟩
       · have:=hfit 0 1 x (by simp[z9,hv]) (by simp[z9,hv]) rfl
         simp at this;simp[z9,qu,hv,this]
       · by_cases h0:x=1
         · exfalso
           refine hn fun i t y hi h1 h2=>?_
           simp[z9,hv]at hi h1;subst hi;simp at h1 h2;subst h1 h2;simpa using h0
         · simp[qu,h0]
 · cases hv:qN p.funcs s with
   | none=>simp[z9,cfT,xK,hv]at h
   | some j=>
     obtain⟨f,hj,_⟩:=xO hv;have hfr:z9 p vars 7 op s=(f.params.map (·.type),f.type,0):=by simp[z9,cfT,xK,hv,hj]
     have hny:qu p vars 7 op s l=if l=f.params.map (·.type) then (f.type,0) else (0,51):=by simp[qu,xK,hv,hj]
     rw[hfr]at hc
     have hq:∀ t ∈ f.params.map (·.type),t≠0:=fun t ht=>by
      obtain⟨x,hx,rfl⟩:=List.mem_map.1 ht;rcases(hp f (List.mem_of_getElem? hj)).2 x hx with e | e <;> rw[e] <;> decide
     have hiff:=fit_call (hl.trans hc.symm) hq;rw[hfr,hny];exact⟨fun hfit=>by rw[if_pos (hiff.1 hfit)],fun hn=>by rw[if_neg fun e=>hn (hiff.2 e)]⟩
 · refine⟨fun _=>by simp[z9,qu],fun hn=>absurd (fun i t x hi=>?_) hn⟩
   simp[z9]at hi
end
section
variable (B C D:Nat) (p:Pr) (vars:List Pa) (op n:Int) (s:ByteArray) (A:Option Addr) (m c:Nat) (v0 v1 v:Value) (w:World)
variable (hB:B≤w.heap.size) (hC:C≤w.heap.size) (hD:D≤w.heap.size) (ha:SlA B w v0 p.arrays) (hf:SlF B w v1 p.funcs) (hS:Seg w C (.pointer none) D v vars.reverse) (hp:ui p)
include hB hC hD ha hf hS hp in
theorem uN (k:Int) (hk:k=1∨k=2∨k=3∨k=4∨k=5∨k=6∨k=7∨k=8):Calls Tryz.prog 116 #[.agg #[v0,v1],v,.agg #[.int .i64 k,.int .i64 op,.int .i64 n,.string s,.slice A m c]] w (jC w (z9 p vars k op s)):=by
 rcases hk with rfl | rfl | rfl | rfl | rfl | rfl | rfl | rfl
 · exact formOf_num B C D p vars op n s A m c v0 v1 v w hB hC hD ha hf hS hp
 · exact formOf_truth B C D p vars op n s A m c v0 v1 v w hB hC hD ha hf hS hp
 · cases hv:z5 vars s with
   | none=>
     have e:z9 p vars 3 op s=([],0,50):=by simp[z9,hv]
     rw[e];exact formOf_var_no B C D p vars op n s A m c v0 v1 v w hB hC hD ha hf hS hp hv
   | some t=>
     have e:z9 p vars 3 op s=([],t,0):=by simp[z9,hv]
     rw[e];exact formOf_var_yes B C D p vars op n s A m c v0 v1 v w hB hC hD ha hf hS hp t hv
 · exact formOf_one B C D p vars op n s A m c v0 v1 v w hB hC hD ha hf hS hp
 · exact formOf_two B C D p vars op n s A m c v0 v1 v w hB hC hD ha hf hS hp
 · cases hv:qb p.arrays s with
   | none=>
     have e:z9 p vars 6 op s=([],0,50):=by simp[z9,hv]
     rw[e];exact formOf_index_no B C D p vars op n s A m c v0 v1 v w hB hC hD ha hf hS hp hv
   | some t=>
     have e:z9 p vars 6 op s=([1],1,0):=by simp[z9,hv]
     rw[e];exact formOf_index_yes B C D p vars op n s A m c v0 v1 v w hB hC hD ha hf hS hp t hv
 · exact formOf_call B C D p vars op n s A m c v0 v1 v w hB hC hD ha hf hS hp
 · exact formOf_read B C D p vars op n s A m c v0 v1 v w hB hC hD ha hf hS hp
end
structure Env (B C:Nat) (p:Pr) (vars:List Pa) (v0 v1 v:Value) (w:World):Prop where
 hB:B≤w.heap.size
 hC:C≤w.heap.size
 ha:SlA B w v0 p.arrays
 hf:SlF B w v1 p.funcs
 hs:Seg w C (.pointer none) w.heap.size v vars.reverse
theorem Env.below {B C:Nat} {p:Pr} {vars:List Pa} {v0 v1 v:Value} {w w':World} (h:Env B C p vars v0 v1 v w) (hb:Below w.heap.size w w'):Env B C p vars v0 v1 v w' where
 hB:=Nat.le_trans h.hB hb.size
 hC:=Nat.le_trans h.hC hb.size
 ha:=h.ha.below (hb.mono h.hB) Zr
 hf:=h.hf.below (hb.mono h.hB) Zr
 hs:=(h.hs.below hb).up hb.size
theorem Env.form {B C:Nat} {p:Pr} {vars:List Pa} {v0 v1 v:Value} {w:World} (h:Env B C p vars v0 v1 v w):∃ A0 c0 A1 c1 q,v0=.slice A0 p.arrays.length c0∧v1=.slice A1 p.funcs.length c1∧v=.pointer q:=by
 obtain⟨A0,c0,e0,_⟩:=h.ha.form;obtain⟨A1,c1,e1,_⟩:=h.hf.form;obtain⟨q,e2⟩:=(h.hs.fin (vd.nil _ _)).form;exact⟨A0,c0,A1,c1,q,e0,e1,e2⟩
def TyC (m:Nat):Prop:=∀ (B C:Nat) (p:Pr) (vars:List Pa) (e:Ex) (r:Int × Int) (x v0 v1 v:Value) (w:World),yr e m=true→ui p→qI p vars e=r→Env B C p vars v0 v1 v w→vx B w e x→
 Calls Tryz.prog 107 #[.agg #[v0,v1],v,x] w fun e w'=>e=.returned (.tuple #[.int .i64 r.1,.int .i64 r.2])∧Below w.heap.size w w'
theorem TyC.call {m:Nat} (h:TyC m) {B C:Nat} {p:Pr} {vars:List Pa} {e:Ex} {r:Int × Int} {x v0 v1 v:Value} {w:World} (h1:yr e m=true) (h2:ui p) (h3:qI p vars e=r) (h4:Env B C p vars v0 v1 v w) (h5:vx B w e x):
 Calls Tryz.prog 107 #[.agg #[v0,v1],v,x] w fun e w'=>e=.returned (.tuple #[.int .i64 r.1,.int .i64 r.2])∧Below w.heap.size w w':=h B C p vars e r x v0 v1 v w h1 h2 h3 h4 h5
theorem five_of {w:World} {g:Nat} {c0 c1 c2 c3 c4:Value} {T:TypeId} (h:w.heap[g]? =some (.cells #[c0,c1,c2,c3,c4] T (0,0))):w.cell? ⟨g,0,none⟩=some c0∧w.cell? ⟨g,1,none⟩=some c1∧w.cell? ⟨g,2,none⟩=some c2∧w.cell? ⟨g,3,none⟩=some c3∧w.cell? ⟨g,4,none⟩=some c4:=
 ⟨(Lib.cell_of_heap h 0).trans rfl,(Lib.cell_of_heap h 1).trans rfl,(Lib.cell_of_heap h 2).trans rfl,(Lib.cell_of_heap h 3).trans rfl,(Lib.cell_of_heap h 4).trans rfl⟩
set_option maxHeartbeats 1000000 in
theorem typeOf_name (B C:Nat) (p:Pr) (vars:List Pa) (k op n:Int) (s:ByteArray) (args:List Ex) (r:Int × Int) (va v0 v1 v:Value) (w:World) (hk:zh k op n s args.length=true) (hp:ui p) (hE:Env B C p vars v0 v1 v w) (hx:qw B w va args)
 (takes:List Int) (gives er:Int) (hfr:z9 p vars k op s=(takes,gives,er)) (h0:er≠0) (hr:qI p vars (.mk k op n s args)=r):
 Calls Tryz.prog 107 #[.agg #[v0,v1],v,.agg #[.int .i64 k,.int .i64 op,.int .i64 n,.string s,va]] w fun e w'=>e=.returned (.tuple #[.int .i64 r.1,.int .i64 r.2])∧Below w.heap.size w w':=by
 have hdn:=dev_name hk (p:=p) (vars:=vars) (by rw[hfr];exact h0);rw[hr,hfr]at hdn;subst hdn;obtain⟨A0,c0,A1,c1,q,rfl,rfl,rfl⟩:=hE.form;obtain⟨A,c,rfl,hn⟩:=hx.form;have HE:=hid hE;have HP:=hid hp;have HK:=hid (xQ hk);have HFR:=hid hfr;clear hE hp hk hfr hx hr;go_enter Tryz.func107,Tryz.ntmps107
 go_wp2_with (go_at_call 116
              have hE2:=(HE.out.below ((Below.refl w.heap.size w).alloc Zr (pgO A0 p.arrays.length c0 A1 p.funcs.length c1))).below ((Below.refl (w.alloc (pgO A0 p.arrays.length c0 A1 p.funcs.length c1)).heap.size _).alloc Zr (xD k op n s A args.length c))
              (with_reducible refine(uN B C _ p vars op n s A args.length c _ _ _ _ hE2.hB hE2.hC Zr hE2.ha hE2.hf hE2.hs HP.out k HK.out).mono ?_)
              rw[HFR.out];rintro e w1 ⟨hb,u,rfl,hI,hL⟩;obtain⟨A2,c2,rfl,_⟩:=hI.form;have HB1:=hid (show Below w.heap.size w w1 from((Zb.alloc Zr _).alloc (by simp) _).trans (hb.mono (by simp;omega)))
              clear hb hI hL hE2)
 go_ret2
 exact⟨rfl,HB1.out.alloc (by have:=HB1.out.size;omega) _⟩
set_option maxHeartbeats 1000000 in
theorem typeOf_count (B C:Nat) (p:Pr) (vars:List Pa) (k op n:Int) (s:ByteArray) (args:List Ex) (r:Int × Int) (va v0 v1 v:Value) (w:World) (hk:zh k op n s args.length=true) (hp:ui p) (hE:Env B C p vars v0 v1 v w) (hx:qw B w va args)
 (takes:List Int) (gives:Int) (hfr:z9 p vars k op s=(takes,gives,0)) (h0:takes.length≠args.length) (hr:qI p vars (.mk k op n s args)=r):
 Calls Tryz.prog 107 #[.agg #[v0,v1],v,.agg #[.int .i64 k,.int .i64 op,.int .i64 n,.string s,va]] w fun e w'=>e=.returned (.tuple #[.int .i64 r.1,.int .i64 r.2])∧Below w.heap.size w w':=by
 have hdn:=dev_count hk (p:=p) (vars:=vars) (by rw[hfr]) (by rw[hfr];exact h0);rw[hr]at hdn;subst hdn;obtain⟨A0,c0,A1,c1,q,rfl,rfl,rfl⟩:=hE.form;obtain⟨A,c,rfl,hn⟩:=hx.form;have HE:=hid hE;have HP:=hid hp;have HK:=hid (xQ hk);have HFR:=hid hfr;have hne:(takes.length:Int)≠(args.length:Int):=by omega
 clear hE hp hk hfr hx hr h0;go_enter Tryz.func107,Tryz.ntmps107
 go_wp2_with (go_at_call 116
              have hE2:=(HE.out.below ((Below.refl w.heap.size w).alloc Zr (pgO A0 p.arrays.length c0 A1 p.funcs.length c1))).below ((Below.refl (w.alloc (pgO A0 p.arrays.length c0 A1 p.funcs.length c1)).heap.size _).alloc Zr (xD k op n s A args.length c))
              (with_reducible refine(uN B C _ p vars op n s A args.length c _ _ _ _ hE2.hB hE2.hC Zr hE2.ha hE2.hf hE2.hs HP.out k HK.out).mono ?_)
              rw[HFR.out];rintro e w1 ⟨hb,u,rfl,hI,hL⟩;obtain⟨A2,c2,rfl,_⟩:=hI.form;have hx1:w1.heap[w.heap.size+1]? =some (xD k op n s A args.length c):=(hb.block (w.heap.size+1) (by simp)).trans (by simpa using heap_alloc_new (w.alloc (pgO A0 p.arrays.length c0 A1 p.funcs.length c1)) (xD k op n s A args.length c));obtain⟨e0,e1,e2,e3,e4⟩:=five_of hx1;have hs1:w.heap.size+1<w1.heap.size:=zB hx1;have HB1:=hid (show Below w.heap.size w w1 from((Zb.alloc Zr _).alloc (by simp) _).trans (hb.mono (by simp;omega)))
              clear hb hI hL hE2 hx1)
 go_ret2
 exact⟨rfl,HB1.out.alloc (by omega) _⟩
set_option maxHeartbeats 1000000 in
theorem typeOf_args (m:Nat) (ih:TyC m) (B C:Nat) (p:Pr) (vars:List Pa) (k op n:Int) (s:ByteArray) (args:List Ex) (r:Int × Int) (va v0 v1 v:Value) (w:World) (hk:zh k op n s args.length=true) (hm:zr args m=true) (hp:ui p) (hE:Env B C p vars v0 v1 v w) (hx:qw B w va args)
 (takes:List Int) (gives:Int) (hfr:z9 p vars k op s=(takes,gives,0)) (h0:takes.length=args.length) (h8:args.length≤8) (hr:qI p vars (.mk k op n s args)=r):
 Calls Tryz.prog 107 #[.agg #[v0,v1],v,.agg #[.int .i64 k,.int .i64 op,.int .i64 n,.string s,va]] w fun e w'=>e=.returned (.tuple #[.int .i64 r.1,.int .i64 r.2])∧Below w.heap.size w w':=by
 have HDA:=hid (fun e=>dev_arg (p:=p) (vars:=vars) hk (by rw[hfr]) (by rw[hfr];exact h0) (e:=e));have HDN:=hid (fun l=>dev_node (p:=p) (vars:=vars) hp hk (by rw[hfr]) (by rw[hfr];exact h0) (l:=l));obtain⟨A0,c0,A1,c1,q,rfl,rfl,rfl⟩:=hE.form;obtain⟨A,c,rfl,hn⟩:=hx.form;obtain⟨i0,hi,hz0,hz1,hz2⟩:=info_parts xP;have HI0:=hid (And.intro hi (And.intro hz0 (And.intro hz1 hz2)));have HE:=hid hE;have HP:=hid hp;have HK:=hid (xQ hk);have HFR:=hid hfr;have HR:=hid hr;have HM:=hid hm;have HX:=hid hx;have HIH:=hid ih;clear hE hp hk hfr hx hr hi hz0 hz1 hz2 hm ih;go_enter Tryz.func107,Tryz.ntmps107
 go_wp2_with (first
  | (go_at_call 116
     have hE2:=(HE.out.below ((Below.refl w.heap.size w).alloc Zr (pgO A0 p.arrays.length c0 A1 p.funcs.length c1))).below ((Below.refl (w.alloc (pgO A0 p.arrays.length c0 A1 p.funcs.length c1)).heap.size _).alloc Zr (xD k op n s A args.length c))
     (with_reducible refine(uN B C _ p vars op n s A args.length c _ _ _ _ hE2.hB hE2.hC Zr hE2.ha hE2.hf hE2.hs HP.out k HK.out).mono ?_)
     rw[HFR.out];rintro e w1 ⟨hb,u,rfl,hI,hL⟩;obtain⟨A2,c2,rfl,_⟩:=hI.form;have hx1:w1.heap[w.heap.size+1]? =some (xD k op n s A args.length c):=(hb.block (w.heap.size+1) (by simp)).trans (by simpa using heap_alloc_new (w.alloc (pgO A0 p.arrays.length c0 A1 p.funcs.length c1)) (xD k op n s A args.length c));have hx0:w1.heap[w.heap.size]? =some (pgO A0 p.arrays.length c0 A1 p.funcs.length c1):=(hb.block w.heap.size (by simp;omega)).trans ((Below.heap_alloc _ _ _ (by simp)).trans (heap_alloc_new w _));obtain⟨e0,e1,e2,e3,e4⟩:=five_of hx1;have hs1:w.heap.size+1<w1.heap.size:=zB hx1;have HX0:=hid hx0;have HX1:=hid hx1;have HTK:=hid (show SlI w1.heap.size w1 (.slice A2 args.length c2) takes by rw[←h0];exact hI);have HB1:=hid (show Below w.heap.size w w1 from((Zb.alloc Zr _).alloc (by simp) _).trans (hb.mono (by simp;omega)))
     clear hb hI hL hE2 hx1 hx0)
  | (at_make;refine wpList_make_full _ rfl _ _ 145 rfl (w1.heap.size+1) 3 i0 (.int .i64 0) 1 Tryz.underlying145 HI0.out.1 HI0.out.2.1 HI0.out.2.2.1 .i64 .i64 _ _ args.length rfl rfl rfl rfl (by rw[HI0.out.2.2.2];omega) (by unfold maxLen;omega) (by simp) ?_
     intro w2 hown hg2;rw[zA]at hown;have hxa:=(hg2.block (w.heap.size+1) (by simp;omega) (by simp)).trans ((Below.heap_alloc w1 (fmO (.slice A2 args.length c2) gives) _ (by omega)).trans HX1.out);have hxb:=(hg2.block w.heap.size (by simp;omega) (by simp)).trans ((Below.heap_alloc w1 (fmO (.slice A2 args.length c2) gives) _ (by omega)).trans HX0.out);have hxc:=(hg2.block w1.heap.size (by simp) (by simp)).trans (heap_alloc_new w1 (fmO (.slice A2 args.length c2) gives));have hs2:w1.heap.size+1<w2.heap.size:=(zM hown _ rfl).2;obtain⟨g0,g1,g2,g3,g4⟩:=five_of hxa;have HXA:=hid hxa;have HXB:=hid hxb;have HXC:=hid hxc;have HO2:=hid hown;have HB2:=hid (show Below w1.heap.size w1 w2 from(Zb.alloc Zr (fmO (.slice A2 args.length c2) gives)).grown hg2 (by simp) fun k hk=>by cases hk)
     clear hown hg2 hxa hxb hxc))
 have hs3:w.heap.size+1<w2.heap.size:=by omega
 clear e0 e1 e2 e3 e4
 go_loopw [39] (fun iv wr=>∃ (j:Nat) (l:List Int) (xs:List Value),j≤args.length∧iv=.int .i64 j∧l.length=j∧zi p vars (args.take j)=.inr l∧Below (w1.heap.size+1) w2 wr∧wr.ownsRow (w1.heap.size+1) 3 1 (.slice (some ⟨w1.heap.size+1,0,none⟩) args.length args.length) args.length xs∧∀ (i:Nat) (t:Int),l[i]? =some t→xs[i]? =some (Value.int .i64 t)) (fun iv _=>args.length-(intOf iv).toNat)
 case atStart=>exact⟨0,[],_,Nat.zero_le _,rfl,rfl,by rw[List.take_zero,zi],Below.refl _ _,HO2.out,fun i t h=>by cases h⟩
 case round=>
  obtain⟨j,l,xs,hj,rfl,hll,hte,hbw,ho,hxs⟩:=hrel;have hsz:=hbw.size;have hwr:Below w.heap.size w wr:=HB1.out.trans ((HB2.out.mono (by omega)).trans (hbw.mono (by omega)));obtain⟨r0,r1⟩:=(zE ((hbw.block w.heap.size (by omega)).trans HXB.out)).1;obtain⟨f0,f1⟩:=(zE ((hbw.block w1.heap.size (by omega)).trans HXC.out)).1;have HXW:=hid ((hbw.block (w.heap.size) (by omega)).trans HXB.out);have HBW:=hid hbw;have HWR:=hid hwr;have HO:=hid ho;have HTE:=hid hte;have HXS:=hid hxs;have hss:w1.heap.size+1<wr.heap.size:=by omega
  have hss0:w.heap.size<wr.heap.size:=by omega
  have hss1:w1.heap.size<wr.heap.size:=by omega
  clear hbw hwr ho hte hxs;by_cases hlt:j<args.length
  · obtain⟨⟨k',op',n',s',as'⟩,he⟩:∃ e,args[j]? =some e:=⟨_,List.getElem?_eq_getElem hlt⟩
    obtain⟨g,o,v',rfl,hg,y0,y1,y2,y3,y4,hsl⟩:=(HX.out.below (HWR.out.mono HE.out.hB) Zr).cells he;obtain⟨A4,c4,rfl,_⟩:=hsl.form;have HEX:=hid (show vx B wr (.mk k' op' n' s' as') (.agg #[.int .i64 k',.int .i64 op',.int .i64 n',.string s',.slice A4 as'.length c4]) from⟨_,rfl,(HX.out.below (HWR.out.mono HE.out.hB) Zr).range he,hsl⟩);have hgs:g<wr.heap.size:=by have:=HE.out.hB;omega
    obtain⟨⟨t,f⟩,htf⟩:∃ r,qI p vars (.mk k' op' n' s' as')=r:=⟨_,rfl⟩
    have HT:=hid htf;have HOK:=hid (qV HM.out he);have HEE:=hid he;obtain⟨u,hu⟩:∃ u,xs[j]? =some u:=⟨_,List.getElem?_eq_getElem (by have:=HO.out.1;omega)⟩
    have HU:=hid hu;have HEN:=hid ((HE.out.below HWR.out).below ((Below.refl wr.heap.size wr).alloc Zr (xD k' op' n' s' A4 as'.length c4)));have HEX2:=hid (HEX.out.below ((Below.refl B wr).alloc (by have:=HE.out.hB;omega) (xD k' op' n' s' A4 as'.length c4)) Zr);clear hsl htf he hu;by_cases hf0:f=0
    · subst hf0
      go_wp2_with (go_at_call 107
                   (with_reducible refine(HIH.out.call HOK.out HP.out HT.out HEN.out HEX2.out).mono ?_)
                   rintro e w5 ⟨rfl,hb⟩;have ho5:=z7 (w':=w5) HO.out fun k hk=>by injection hk with hk;subst hk;exact(hb.block _ (by simp;omega)).trans (Below.heap_alloc _ _ _ hss)
                   have z0:w5.cell? ⟨w1.heap.size+1,j,none⟩=some u:=(ho5.cellAt j (by omega)).trans HU.out;have z1:w5.frozen? ⟨w1.heap.size+1,j,none⟩=false:=ho5.frozenAt j;have HO5:=hid ho5;have hs5:wr.heap.size+1≤w5.heap.size:=by have:=hb.size;simpa using this
                   have HB5:=hid hb
                   clear hb ho5)
      go_roundw
      case rel=>
       have hb5:Below (w1.heap.size+1) w2 w5:=(HBW.out.alloc (by omega) _).trans (HB5.out.mono (by simp;omega));have hst:=(HO5.out.stored j (.int .i64 t)).1;refine⟨j+1,l++[t],_,by omega,by go_num,by simp[hll],?_,hb5.setCell (p:=⟨w1.heap.size+1,j,none⟩) Zr _,hst,fun i x hi=>?_⟩
       · have:=ya HTE.out HEE.out (by rw[HT.out])
         rwa [HT.out]at this
       · by_cases hij:i=j
         · subst hij
           rw[←hll,List.getElem?_concat_length]at hi;injection hi with hi;subst hi;rw[List.getElem?_set_self (by have:=(List.getElem?_eq_some_iff.1 HU.out).1;exact this)]
         · rw[List.getElem?_set_ne (Ne.symm hij)]
           refine HXS.out i x ?_;rw[List.getElem?_append_left]at hi
           · exact hi
           · have:=(List.getElem?_eq_some_iff.1 hi).1
             simp at this;omega
      case measure=>simp[intOf];omega
    · go_wp2_with (go_at_call 107
                   (with_reducible refine(HIH.out.call HOK.out HP.out HT.out HEN.out HEX2.out).mono ?_)
                   rintro e w5 ⟨rfl,hb⟩;have ho5:=z7 (w':=w5) HO.out fun k hk=>by injection hk with hk;subst hk;exact(hb.block _ (by simp;omega)).trans (Below.heap_alloc _ _ _ hss)
                   have z0:w5.cell? ⟨w1.heap.size+1,j,none⟩=some u:=(ho5.cellAt j (by omega)).trans HU.out;have z1:w5.frozen? ⟨w1.heap.size+1,j,none⟩=false:=ho5.frozenAt j;have hs5:wr.heap.size+1≤w5.heap.size:=by have:=hb.size;simpa using this
                   have HB5:=hid hb
                   clear hb ho5)
      go_ret2
      have hrr:=HDA.out f (by have:=vg HTE.out HEE.out (by rw[HT.out];exact hf0);rwa [HT.out]at this);rw[HR.out]at hrr;subst hrr;exact⟨rfl,(((HWR.out.alloc (by omega) _).trans (HB5.out.mono (by simp;omega)))).setCell (p:=⟨w1.heap.size+1,j,none⟩) (by show w.heap.size≤w1.heap.size+1;omega) _⟩
  · have hjl:j=args.length:=by omega
    subst hjl;have HTA:=hid (show zi p vars args=.inr l by have:=HTE.out;rwa [List.take_of_length_le Zr]at this);have HTB:=hid (HTK.out.below ((HB2.out.mono Zr).trans (HBW.out.mono (by omega))) Zr);clear HTE hj hlt;go_wp2_with (fail)
    go_loopw [61] (fun iv wr2=>∃ i:Nat,i≤args.length∧iv=.int .i64 i∧FitN takes l i∧wr2=wr) (fun iv _=>args.length-(intOf iv).toNat)
    case atStart=>exact⟨0,Nat.zero_le _,rfl,FitN.zero _ _,rfl⟩
    case round=>
     obtain⟨i,hi,rfl,hfit,rfl⟩:=hrel;have HFIT:=hid hfit;clear hfit;by_cases hlt:i<args.length
     · obtain⟨t,ht⟩:∃ e,takes[i]? =some e:=⟨_,List.getElem?_eq_getElem (by omega)⟩
       obtain⟨x,hx⟩:∃ e,l[i]? =some e:=⟨_,List.getElem?_eq_getElem (by omega)⟩
       obtain⟨gt,ot,rfl,hgt,t0⟩:=HTB.out.cells ht;have hx0:wr.cell? ⟨w1.heap.size+1,i,none⟩=some (.int .i64 x):=(HO.out.cellAt i (by omega)).trans (HXS.out i x hx);have hgts:gt<wr.heap.size:=by omega
       have HT:=hid ht;have HXI:=hid hx;clear ht hx;by_cases ht0:t=0
       · subst ht0
         have hh:l[0]? =some (l.headD 0):=by
          cases l with
          | nil=>have:=HXI.out;simp at this
          | cons a r=>rfl
         have hx1:wr.cell? ⟨w1.heap.size+1,0,none⟩=some (.int .i64 (l.headD 0)):=(HO.out.cellAt 0 (by omega)).trans (HXS.out 0 _ hh);obtain⟨y,hy⟩:∃ y,l.headD 0=y:=⟨_,rfl⟩
         rw[hy]at hx1;have HY:=hid hy;clear hh hy;by_cases hxy:x=y
         · subst hxy
           go_wp2_with (fail);go_roundw
           case rel=>exact⟨i+1,by omega,by go_num,HFIT.out.succ HT.out HXI.out (by rw[if_pos rfl,HY.out]),trivial⟩
           case measure=>simp[intOf];omega
         · go_wp2_with (fail)
           go_ret2
           have hrr:=(HDN.out l HTA.out).2 (by rw[HFR.out];intro hn;exact hxy (by have:=hn i 0 x (by show i<takes.length;omega) HT.out HXI.out;rwa [if_pos rfl,HY.out]at this));rw[HR.out]at hrr;subst hrr;exact⟨rfl,HWR.out⟩
       · by_cases hxy:x=t
         · subst hxy
           go_wp2_with (fail);go_roundw
           case rel=>exact⟨i+1,by omega,by go_num,HFIT.out.succ HT.out HXI.out (by rw[if_neg ht0]),trivial⟩
           case measure=>simp[intOf];omega
         · go_wp2_with (fail)
           go_ret2
           have hrr:=(HDN.out l HTA.out).2 (by rw[HFR.out];intro hn;exact hxy (by have:=hn i t x (by show i<takes.length;omega) HT.out HXI.out;rwa [if_neg ht0]at this));rw[HR.out]at hrr;subst hrr;exact⟨rfl,HWR.out⟩
     · have hil:i=args.length:=by omega
       subst hil;go_wp2_with (fail)
       go_ret2
       have hrr:=(HDN.out l HTA.out).1 (by rw[HFR.out];show FitN takes l takes.length;rw[h0];exact HFIT.out);rw[HR.out,HFR.out]at hrr;subst hrr;exact⟨rfl,HWR.out⟩
theorem xd:∀ m,TyC m
 | 0=>fun _ _ _ _ e _ _ _ _ _ _ h=>by
   obtain⟨k,op,n,s,args⟩:=e;rw[ju]at h;simp at h
 | m+1=>fun B C p vars e r x v0 v1 v w h hp hr hE hx=>by
   obtain⟨k,op,n,s,args⟩:=e;rw[ju,Bool.and_eq_true,Bool.and_eq_true]at h;obtain⟨⟨_,hf⟩,hk⟩:=h;rw[Nat.add_sub_cancel]at hk;obtain⟨va,rfl,_,hs⟩:=hx;obtain⟨⟨takes,gives,er⟩,hfr⟩:∃ o,z9 p vars k op s=o:=⟨_,rfl⟩
   by_cases h1:er=0
   · subst h1
     by_cases h2:takes.length=args.length
     · have h8:args.length≤8:=by
        rcases xQ hf with rfl | rfl | rfl | rfl | rfl | rfl | rfl | rfl
        · rw[qm hf (by decide)];decide
        · rw[qm hf (by decide)];decide
        · rw[qm hf (by decide)];decide
        · obtain⟨a,rfl⟩:=fE_one hf;simp
        · obtain⟨a,c,rfl⟩:=fE_two hf;simp
        · obtain⟨a,rfl⟩:=ul hf;simp
        · simp[zh]at hf;exact hf.2
        · rw[qm hf (by decide)];decide
       exact typeOf_args m (xd m) B C p vars k op n s args r va v0 v1 v w hf hk hp hE hs takes gives hfr h2 h8 hr
     · exact typeOf_count B C p vars k op n s args r va v0 v1 v w hf hp hE hs takes gives hfr h2 hr
   · exact typeOf_name B C p vars k op n s args r va v0 v1 v w hf hp hE hs takes gives er hfr h1 hr
def jh (p:Pr) (vars:List Pa):List Ex→Int→Int
 | [],_=>0
 | e :: r,t=>if q7 p vars e t≠0 then q7 p vars e t else jh p vars r t
abbrev ckO (v0 v1:Value) (g n:Int):Obj:=.cells #[v0,v1,.int .i64 g,.int .i64 n] 126
theorem zI {w:World} {g:Nat} {c0 c1 c2 c3:Value} {T:TypeId} (h:w.heap[g]? =some (.cells #[c0,c1,c2,c3] T (0,0))):(w.cell? ⟨g,0,none⟩=some c0∧w.cell? ⟨g,1,none⟩=some c1∧w.cell? ⟨g,2,none⟩=some c2∧w.cell? ⟨g,3,none⟩=some c3)∧∀ o,w.frozen? ⟨g,o,none⟩=false:=
 ⟨⟨(Lib.cell_of_heap h 0).trans rfl,(Lib.cell_of_heap h 1).trans rfl,(Lib.cell_of_heap h 2).trans rfl,(Lib.cell_of_heap h 3).trans rfl⟩,fun o=>by simp[World.frozen?,h]⟩
theorem jv {α:Type} {l:List α} {j:Nat} {e:α} (h:l[j]? =some e):l.drop j=e :: l.drop (j+1):=by
 obtain⟨hlt,hge⟩:=List.getElem?_eq_some_iff.1 h;rw[List.drop_eq_getElem_cons hlt,hge]
set_option maxHeartbeats 1600000 in
theorem ki (B C b:Nat) (p:Pr) (vars:List Pa) (l:List Ex) (qP r:Int) (vl v0 v1 v:Value) (gv n:Int) (w:World) (hE:Env B C p vars v0 v1 v w) (hb:w.heap[b]? =some (ckO v0 v1 gv n)) (hl:qw B w vl l) (hok:zr l 100=true) (hp:ui p) (hr:jh p vars l qP=r):
 Calls Tryz.prog 105 #[.pointer (some ⟨b,0,none⟩),vl,v,.int .i64 qP] w fun e w'=>e=.returned (.int .i64 r)∧Below w.heap.size w w':=by
 obtain⟨A0,c0,A1,c1,q,rfl,rfl,rfl⟩:=hE.form;obtain⟨A,c,rfl,hn⟩:=hl.form;have hbl:=zB hb;have HE:=hid hE;have HBB:=hid hb;have HL:=hid hl;have HOK:=hid hok;have HP:=hid hp;have HR:=hid hr;clear hE hb hl hok hp hr;go_enter Tryz.func105,Tryz.ntmps105;go_wp2_with (fail)
 go_loopw [15] (fun iv wr=>∃ j:Nat,j≤l.length∧iv=.int .i64 j∧jh p vars (l.drop j) qP=r∧Below w.heap.size w wr) (fun iv _=>l.length-(intOf iv).toNat)
 case atStart=>exact⟨0,Nat.zero_le _,rfl,HR.out,Below.refl _ _⟩
 case round=>
  obtain⟨j,hj,rfl,ht,hbw⟩:=hrel;have HT:=hid ht;have HBW:=hid hbw;have hsz:=hbw.size;clear ht;by_cases hlt:j<l.length
  · obtain⟨⟨k',op',n',s',as'⟩,he⟩:∃ e,l[j]? =some e:=⟨_,List.getElem?_eq_getElem hlt⟩
    obtain⟨g,o,v',rfl,hg,y0,y1,y2,y3,y4,hsl⟩:=(HL.out.below (hbw.mono HE.out.hB) Zr).cells he;obtain⟨A5,c5,rfl,_⟩:=hsl.form;have hgs:g<wr.heap.size:=by have:=HE.out.hB;omega
    have hbs:b<wr.heap.size:=by omega
    obtain⟨⟨b0,b1,b2,b3⟩,_⟩:=zI ((hbw.block b hbl).trans HBB.out);have hEX:vx B wr (.mk k' op' n' s' as') (.agg #[.int .i64 k',.int .i64 op',.int .i64 n',.string s',.slice A5 as'.length c5]):=⟨_,rfl,(HL.out.below (hbw.mono HE.out.hB) Zr).range he,hsl⟩
    have hw1:Below wr.heap.size wr (wr.alloc (xD k' op' n' s' A5 as'.length c5)).drew:=(Zb.alloc Zr _).drew;have HEX:=hid (hEX.below (hw1.mono (by have:=HE.out.hB;omega)) Zr);have HEN:=hid ((HE.out.below hbw).below hw1);have HW1:=hid hw1;obtain⟨x0,x1,x2,x3,x4⟩:=five_of (heap_alloc_new wr (xD k' op' n' s' A5 as'.length c5));obtain⟨⟨t,f⟩,htf⟩:∃ r,qI p vars (.mk k' op' n' s' as')=r:=⟨_,rfl⟩
    have HTF:=hid htf;have HO:=hid (qV HOK.out he);have hwe:q7 p vars (.mk k' op' n' s' as') qP=if f=0 then (if t=qP then 0 else 51) else f:=by unfold q7;rw[htf]
    have hdd:=HT.out;rw[jv he,jh,hwe]at hdd;have HDD:=hid hdd;clear hsl htf he hEX hw1 hwe hdd hbw x0 x1 x2 x3 x4;by_cases hf0:f=0
    case pos=>
     subst hf0;by_cases htw:t=qP
     · subst htw
       go_wp2_with (fail)
       go_region_held3 (fun w'=>w'.cell? ⟨b,0,none⟩=some (.slice A0 p.arrays.length c0)∧w'.cell? ⟨b,1,none⟩=some (.slice A1 p.funcs.length c1)∧w'.cell? ⟨wr.heap.size,0,none⟩=some (.int .i64 k')∧w'.cell? ⟨wr.heap.size,1,none⟩=some (.int .i64 op')∧w'.cell? ⟨wr.heap.size,2,none⟩=some (.int .i64 n')∧w'.cell? ⟨wr.heap.size,3,none⟩=some (.string s')∧w'.cell? ⟨wr.heap.size,4,none⟩=some (.slice A5 as'.length c5))
        (first
          | (go_split_ands;refine⟨?_,?_,?_,?_,?_,?_,?_⟩ <;> (first | (rw[hq5];assumption) | (rw[hk5 _ _ (by omega)];simp[*];done) | (simp[*];done)))
          | go_keep)
        (first
          | (go_at_call 107
             (refine((xd 100).call (w:=(wr.alloc (xD k' op' n' s' A5 as'.length c5)).drew) HO.out HP.out HTF.out HEN.out HEX.out).mono ?_)
             rintro e w5 ⟨rfl,hb5⟩;have hk5:∀ g o,g<wr.heap.size+1→w5.cell? ⟨g,o,none⟩=(wr.alloc (xD k' op' n' s' A5 as'.length c5)).cell? ⟨g,o,none⟩:=fun g o hg=>hb5.cell (p:=⟨g,o,none⟩) (by show g<(wr.alloc _).heap.size;rw[zA];exact hg)
             have HB5:=hid (show Below wr.heap.size wr w5 from HW1.out.trans (hb5.mono (by show wr.heap.size≤(wr.alloc _).heap.size;rw[zA];omega)));have hq5:∀ o,w5.cell? ⟨b,o,none⟩=wr.cell? ⟨b,o,none⟩:=fun o=>HB5.out.cell (p:=⟨b,o,none⟩) hbs
             clear hb5))
       go_wp2_with (fail);go_roundw
       case rel=>exact⟨j+1,by omega,by go_num,by have:=HDD.out;simpa using this,HBW.out.trans (HB5.out.mono hsz)⟩
       case measure=>simp[intOf];omega
     · go_wp2_with (fail)
       go_region_held3 (fun w'=>w'.cell? ⟨b,0,none⟩=some (.slice A0 p.arrays.length c0)∧w'.cell? ⟨b,1,none⟩=some (.slice A1 p.funcs.length c1)∧w'.cell? ⟨wr.heap.size,0,none⟩=some (.int .i64 k')∧w'.cell? ⟨wr.heap.size,1,none⟩=some (.int .i64 op')∧w'.cell? ⟨wr.heap.size,2,none⟩=some (.int .i64 n')∧w'.cell? ⟨wr.heap.size,3,none⟩=some (.string s')∧w'.cell? ⟨wr.heap.size,4,none⟩=some (.slice A5 as'.length c5))
        (first
          | (go_split_ands;refine⟨?_,?_,?_,?_,?_,?_,?_⟩ <;> (first | (rw[hq5];assumption) | (rw[hk5 _ _ (by omega)];simp[*];done) | (simp[*];done)))
          | go_keep)
        (first
          | (go_at_call 107
             (refine((xd 100).call (w:=(wr.alloc (xD k' op' n' s' A5 as'.length c5)).drew) HO.out HP.out HTF.out HEN.out HEX.out).mono ?_)
             rintro e w5 ⟨rfl,hb5⟩;have hk5:∀ g o,g<wr.heap.size+1→w5.cell? ⟨g,o,none⟩=(wr.alloc (xD k' op' n' s' A5 as'.length c5)).cell? ⟨g,o,none⟩:=fun g o hg=>hb5.cell (p:=⟨g,o,none⟩) (by show g<(wr.alloc _).heap.size;rw[zA];exact hg)
             have HB5:=hid (show Below wr.heap.size wr w5 from HW1.out.trans (hb5.mono (by show wr.heap.size≤(wr.alloc _).heap.size;rw[zA];omega)));have hq5:∀ o,w5.cell? ⟨b,o,none⟩=wr.cell? ⟨b,o,none⟩:=fun o=>HB5.out.cell (p:=⟨b,o,none⟩) hbs
             clear hb5))
       go_wp2_with (fail);go_ret;exact⟨zk (by have:=HDD.out;simpa[htw] using this),HBW.out.trans (HB5.out.mono hsz)⟩
    case neg=>
     go_wp2_with (fail)
     go_region_held3 (fun w'=>w'.cell? ⟨b,0,none⟩=some (.slice A0 p.arrays.length c0)∧w'.cell? ⟨b,1,none⟩=some (.slice A1 p.funcs.length c1)∧w'.cell? ⟨wr.heap.size,0,none⟩=some (.int .i64 k')∧w'.cell? ⟨wr.heap.size,1,none⟩=some (.int .i64 op')∧w'.cell? ⟨wr.heap.size,2,none⟩=some (.int .i64 n')∧w'.cell? ⟨wr.heap.size,3,none⟩=some (.string s')∧w'.cell? ⟨wr.heap.size,4,none⟩=some (.slice A5 as'.length c5))
      (first
        | (go_split_ands;refine⟨?_,?_,?_,?_,?_,?_,?_⟩ <;> (first | (rw[hq5];assumption) | (rw[hk5 _ _ (by omega)];simp[*];done) | (simp[*];done)))
        | go_keep)
      (first
        | (go_at_call 107
           (refine((xd 100).call (w:=(wr.alloc (xD k' op' n' s' A5 as'.length c5)).drew) HO.out HP.out HTF.out HEN.out HEX.out).mono ?_)
           rintro e w5 ⟨rfl,hb5⟩;have hk5:∀ g o,g<wr.heap.size+1→w5.cell? ⟨g,o,none⟩=(wr.alloc (xD k' op' n' s' A5 as'.length c5)).cell? ⟨g,o,none⟩:=fun g o hg=>hb5.cell (p:=⟨g,o,none⟩) (by show g<(wr.alloc _).heap.size;rw[zA];exact hg)
           have HB5:=hid (show Below wr.heap.size wr w5 from HW1.out.trans (hb5.mono (by show wr.heap.size≤(wr.alloc _).heap.size;rw[zA];omega)));have hq5:∀ o,w5.cell? ⟨b,o,none⟩=wr.cell? ⟨b,o,none⟩:=fun o=>HB5.out.cell (p:=⟨b,o,none⟩) hbs
           clear hb5))
     go_wp2_with (fail);go_ret;exact⟨zk (by have:=HDD.out;simpa[hf0] using this),HBW.out.trans (HB5.out.mono hsz)⟩
  · go_wp2_with (fail)
    go_ret;have hd:=HT.out;rw[List.drop_of_length_le (by omega),jh]at hd;exact⟨zk hd,HBW.out⟩
end Go.Proofs.YtfghofifjnbicaaGreatDoor
