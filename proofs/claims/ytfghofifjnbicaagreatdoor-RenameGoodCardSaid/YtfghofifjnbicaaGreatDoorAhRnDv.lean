import Derived.Test.YtfghofifjnbicaaGreatDoorAhZed
import Derived.Test.YtfghofifjnbicaaGreatDoorAhRnOk
import Derived.Test.YtfghofifjnbicaaGreatDoorAhRnMid
import Derived.Test.YtfghofifjnbicaaGreatDoorAhTreeRefD
import Derived.Maps.OwnOps
import Derived.Maps.Views
import Derived.Shelf.SlMaps.Clone
import Derived.Lib.ItoaLen
import Derived.Lib.SliceRun
import Derived.Lib.Walk
set_option linter.unusedSimpArgs false
set_option linter.unusedVariables false
set_option maxRecDepth 100000
/- The developers' renaming, as a plain function: numbers by names; it is the document's where the program may be. No Go, no program. -/
namespace Go.Proofs.YtfghofifjnbicaaGreatDoor
open Lib (hid)
open Go.RowKit
abbrev Nm:=ByteArray→Nat
def upN (nm:Nm) (s:ByteArray) (n:Nat):Nm:=fun t=>if t=s then n else nm t
mutual
def dvE (nm:Nm):Ex→Ex
 | .mk k op n name args=>.mk k op n (if k=3 then vN (nm name) else name) (qd nm args)
def qd (nm:Nm):List Ex→List Ex
 | []=>[]
 | e :: r=>dvE nm e :: qd nm r
end
def dvN (k:Int) (name:ByteArray) (nm:Nm) (n:Nat):Nm:=if k=1 then upN nm name n else nm
def dvSN:St→Nm→Nat→Nm
 | .mk k _ name _ _ _,nm,n=>dvN k name nm n
mutual
def dvS:St→Nm→Nat→St × Nat
 | .mk k ty name args thn els,nm,n=>
   (.mk k ty (if k=1∨k=2 then vN (dvN k name nm n name) else name) (qd nm args) (qO thn (dvN k name nm n) (xE k n)).1 (qO els (dvN k name nm n) (qO thn (dvN k name nm n) (xE k n)).2).1,
     (qO els (dvN k name nm n) (qO thn (dvN k name nm n) (xE k n)).2).2)
def qO:List St→Nm→Nat→List St × Nat
 | [],_,n=>([],n)
 | s :: r,nm,n=>((dvS s nm n).1 :: (qO r (dvSN s nm n) (dvS s nm n).2).1,(qO r (dvSN s nm n) (dvS s nm n).2).2)
end
def yH:List Pa→Nat→Nm→Nm
 | [],_,nm=>nm
 | x :: r,n,nm=>yH r (n+1) (upN nm x.name n)
def dvF (f:Fu):Fu:=⟨f.name,f.type,renPs f.params 0,(qO f.body (yH f.params 0 fun _=>0) f.params.length).1⟩
theorem zAc (nm:Nm):∀ l:List Ex,qd nm l=l.map (dvE nm)
 | []=>by rw[qd];rfl
 | e :: r=>by rw[qd,zAc nm r];rfl
theorem xl (nm:Nm) (l:List Ex):(qd nm l).length=l.length:=by rw[zAc,List.length_map]
theorem qq:∀ (l:List St) (nm:Nm) (n:Nat),(qO l nm n).1.length=l.length
 | [],_,_=>by rw[qO]
 | s :: r,nm,n=>by rw[qO,List.length_cons,List.length_cons,qq r]
mutual
theorem dvS_cnt:∀ (s:St) (nm:Nm) (n:Nat),(dvS s nm n).2≤n+kN s
 | .mk k ty name args thn els,nm,n=>by
   have h1:=yX thn (dvN k name nm n) (xE k n);have h2:=yX els (dvN k name nm n) (qO thn (dvN k name nm n) (xE k n)).2;have h3:xE k n≤n+1:=by unfold xE;split <;> omega
   rw[dvS,kN];show (qO els (dvN k name nm n) (qO thn (dvN k name nm n) (xE k n)).2).2≤_;omega
theorem yX:∀ (l:List St) (nm:Nm) (n:Nat),(qO l nm n).2≤n+cntSs l
 | [],nm,n=>by rw[qO,cntSs];exact Nat.le_refl _
 | s :: r,nm,n=>by
   have h1:=dvS_cnt s nm n;have h2:=yX r (dvSN s nm n) (dvS s nm n).2;rw[qO,cntSs];show (qO r (dvSN s nm n) (dvS s nm n).2).2≤_;omega
end
def Kn (vars:List Pa) (nm:Nm) (names:kM):Prop:=∀ s,(z5 vars s).isSome=true→yD names s=some (vN (nm s))
theorem varT_snoc:∀ (l:List Pa) (x:Pa) (s:ByteArray),z5 (l++[x]) s=if x.name=s then some x.type else z5 l s
 | [],x,s=>by rw[List.nil_append,z5,z5,z5]
 | y :: r,x,s=>by
   rw[List.cons_append,z5,varT_snoc r x s,z5];by_cases e:x.name=s
   · rw[if_pos e,if_pos e]
   · rw[if_neg e,if_neg e]
theorem fndO_app1:∀ (l:kM) (q:ByteArray × ByteArray) (s:ByteArray),yD (l++[q]) s=if q.1=s then some q.2 else yD l s
 | [],q,s=>by rw[List.nil_append,yD,yD,yD]
 | y :: r,q,s=>by
   rw[List.cons_append,yD,fndO_app1 r q s,yD];by_cases e:q.1=s
   · rw[if_pos e,if_pos e]
   · rw[if_neg e,if_neg e]
theorem Kn.snoc {vars:List Pa} {nm:Nm} {names:kM} (h:Kn vars nm names) (s:ByteArray) (t:Int) (n:Nat):Kn (vars++[⟨s,t⟩]) (upN nm s n) (names++[(s,vN n)]):=by
 intro u hu;rw[varT_snoc]at hu;rw[fndO_app1];unfold upN;by_cases e:s=u
 · rw[if_pos e,if_pos e.symm]
 · rw[if_neg e,if_neg (fun h=>e h.symm)]
   rw[if_neg e]at hu;exact h u hu
theorem Kn.let {vars:List Pa} {nm:Nm} {names:kM} (h:Kn vars nm names) (k ty:Int) (name:ByteArray) (n:Nat):Kn (jp k ty name vars) (dvN k name nm n) (xb k name names n):=by
 unfold jp dvN xb;by_cases h1:k=1
 · rw[if_pos h1,if_pos h1,if_pos h1];exact h.snoc name ty n
 · rw[if_neg h1,if_neg h1,if_neg h1];exact h
mutual
theorem dvE_ren {p:Pr} {vars:List Pa} {nm:Nm} {names:kM} (hK:Kn vars nm names):∀ e:Ex,(qI p vars e).2=0→dvE nm e=renE names e
 | .mk k op n name args,h=>by
   rw[qI]at h;by_cases h1:jx p vars k name=false
   · rw[if_pos h1]at h;exact absurd h (by decide)
   rw[if_neg h1]at h;have h1':jx p vars k name=true:=by simpa using h1
   by_cases h2:kd p k name args.length=false
   · rw[if_pos h2]at h;exact absurd h (by decide)
   rw[if_neg h2]at h;rw[dvE,renE]
   have ha:qd nm args=qe names args:=by
    cases ha:zi p vars args with
    | inl x=>rw[ha]at h;exact absurd h (typEs_inl ha)
    | inr l=>exact dvEs_ren hK args l ha
   rw[ha];by_cases h3:k=3
   · subst h3
     unfold jx at h1';rw[if_pos rfl]at h1';rw[if_pos rfl,if_pos rfl,fnd_of (hK name h1')]
   · rw[if_neg h3,if_neg h3]
theorem dvEs_ren {p:Pr} {vars:List Pa} {nm:Nm} {names:kM} (hK:Kn vars nm names):∀ (l:List Ex) (ts:List Int),zi p vars l=.inr ts→qd nm l=qe names l
 | [],ts,h=>by rw[qe,qd]
 | e :: r,ts,h=>by
   rw[zi]at h;by_cases h0:(qI p vars e).2=0
   · rw[if_neg (by simpa using h0)]at h
     rw[qe,qd,dvE_ren hK e h0];cases hr:zi p vars r with
     | inl x=>rw[hr]at h;cases h
     | inr l=>rw[dvEs_ren hK r l hr]
   · rw[if_pos h0]at h;cases h
end
theorem kL {p:Pr} {vars:List Pa} {e:Ex} {t:Int} (h:q7 p vars e t=0):(qI p vars e).2=0:=by
 unfold q7 at h;by_cases h0:(qI p vars e).2=0
 · exact h0
 · rw[if_neg h0]at h;exact h
theorem yi {p:Pr} {vars:List Pa} {nm:Nm} {names:kM} (hK:Kn vars nm names) {args:List Ex} (hl:args.length=1) (h:(qI p vars (args.getD 0 xL)).2=0):qd nm args=qe names args:=by
 match args,hl with
 | [e],_=>
   have h1:(qI p vars e).2=0:=h;rw[qd,qd,qe,qe,dvE_ren hK e h1]
theorem ownS_args {p:Pr} {vars:List Pa} {nm:Nm} {names:kM} (hK:Kn vars nm names) {ft k ty:Int} {name:ByteArray} {args:List Ex} {a b:Nat} {c:Bool} {frm:Nat} {loop:Bool}
 (hf:zZ k ty name args.length a b c=true) (h:qh p ft k ty name args vars frm loop=0):qd nm args=qe names args:=by
 unfold qh at h;unfold zZ at hf;by_cases h1:k=1
 · rw[if_pos h1]at h hf
   simp only[Bool.and_eq_true,decide_eq_true_eq]at hf;by_cases hw:q7 p vars (args.getD 0 xL) ty=0
   · exact yi hK hf.1.1.2 (kL hw)
   · rw[if_neg hw]at h;exact absurd h hw
 rw[if_neg h1]at h hf;by_cases h2:k=2
 · rw[if_pos h2]at h hf
   simp only[Bool.and_eq_true,decide_eq_true_eq]at hf;cases hv:z5 vars name with
   | none=>rw[hv]at h;exact absurd (show (50 :Int)=0 from h) (by decide)
   | some t=>rw[hv]at h;exact yi hK hf.1.1.2 (kL h)
 rw[if_neg h2]at h hf;by_cases h3:k=3
 · rw[if_pos h3]at h hf
   simp only[Bool.and_eq_true,decide_eq_true_eq]at hf;by_cases ha:(qb p.arrays name).isSome=true
   · rw[if_pos ha]at h
     by_cases hw:q7 p vars (args.getD 0 xL) 1=0
     · rw[if_pos hw]at h
       match args,hf.1.1.2 with
       | [d,e],_=>
         have g1:(qI p vars d).2=0:=kL hw;have g2:(qI p vars e).2=0:=kL h;rw[qd,qd,qd,qe,qe,qe,dvE_ren hK d g1,dvE_ren hK e g2]
     · rw[if_neg hw]at h;exact absurd h hw
   · rw[if_neg ha]at h;exact absurd h (by decide)
 rw[if_neg h3]at h hf;by_cases h4:k=4
 · rw[if_pos (.inl h4)]at h
   rw[if_pos h4]at hf;simp only[Bool.and_eq_true,decide_eq_true_eq]at hf;exact yi hK hf.2 (kL h)
 rw[if_neg h4]at hf;by_cases h5:k=5
 · rw[if_pos (.inr h5)]at h
   rw[if_pos h5]at hf;simp only[Bool.and_eq_true,decide_eq_true_eq]at hf;exact yi hK hf.1.2 (kL h)
 rw[if_neg h5]at hf;rw[if_neg (by omega)]at h;by_cases h6:k=6∨k=7
 · rw[if_pos h6]at hf
   simp only[Bool.and_eq_true,decide_eq_true_eq]at hf;obtain rfl:args=[]:=List.eq_nil_of_length_eq_zero hf.1.1.2;rw[qd,qe]
 rw[if_neg h6]at hf;by_cases h8:k=8
 · rw[if_pos h8]at h
   rw[if_pos (.inl h8)]at hf;simp only[Bool.and_eq_true,decide_eq_true_eq]at hf;exact yi hK hf.1.1.2 (kL h)
 rw[if_neg h8]at h;by_cases h9:k=9
 · rw[if_pos h9]at h
   rw[if_pos (.inr h9)]at hf;simp only[Bool.and_eq_true,decide_eq_true_eq]at hf;exact yi hK hf.1.1.2 (kL h)
 rw[if_neg h9]at h;rw[if_neg (by omega)]at hf;by_cases h10:k=10
 · rw[if_pos h10]at h hf
   simp only[Bool.and_eq_true,decide_eq_true_eq]at hf;exact yi hK hf.1.1.1.2 h
 · rw[if_neg h10]at hf;exact absurd hf (by decide)
theorem ownS_name {p:Pr} {vars:List Pa} {nm:Nm} {names:kM} (hK:Kn vars nm names) {ft k ty:Int} {name:ByteArray} {args:List Ex} {frm c:Nat} {loop:Bool}
 (h:qh p ft k ty name args vars frm loop=0):(if k=1∨k=2 then vN (dvN k name nm c name) else name)=if k=1∨k=2 then fnd (xb k name names c) name else name:=by
 by_cases hk:k=1∨k=2
 · rw[if_pos hk,if_pos hk]
   rcases hk with rfl | rfl
   · unfold dvN xb upN
     rw[if_pos rfl,if_pos rfl,if_pos rfl,fnd_snoc]
   · unfold dvN xb
     rw[if_neg (by decide),if_neg (by decide)];unfold qh at h;rw[if_neg (by decide),if_pos rfl]at h;cases hv:z5 vars name with
     | none=>rw[hv]at h;exact absurd (show (50 :Int)=0 from h) (by decide)
     | some t=>rw[fnd_of (hK name (by rw[hv];rfl))]
 · rw[if_neg hk,if_neg hk]
mutual
theorem dvS_ren {p:Pr} {ft:Int}:∀ (s:St) (vars:List Pa) (nm:Nm) (names:kM) (frm:Nat) (loop:Bool) (n m c d:Nat),Kn vars nm names→stOK s d=true→chkS p ft s vars frm loop n=(0,m)→dvS s nm c=renS s names c
 | .mk k ty name args thn els,vars,nm,names,frm,loop,n,m,c,d,hK,hs,h=>by
   rw[chkS]at h;rw[ja]at hs;simp only[Bool.and_eq_true]at hs;obtain⟨⟨⟨⟨_,hf⟩,_⟩,hthn⟩,hels⟩:=hs;by_cases h1:qh p ft k ty name args vars frm loop=0
   · rw[if_neg (by simpa using h1)]at h
     have hK2:=hK.let k ty name c;rw[dvS,renS,ownS_args hK hf h1,ownS_name hK (c:=c) h1];obtain⟨⟨e1,n1⟩,ht⟩:∃ R,zd p ft thn (jp k ty name vars) (jp k ty name vars).length (loop || decide (k=5)) (n+1)=R:=⟨_,rfl⟩
     rw[ht]at h;by_cases h2:e1=0
     · subst h2
       rw[if_neg (by simp)]at h;rw[zAd thn _ _ _ _ _ _ _ _ _ hK2 hthn ht,zAd els _ _ _ _ _ _ _ _ _ hK2 hels h]
     · rw[if_pos (by simpa using h2)]at h
       exact absurd (congrArg Prod.fst h) h2
   · rw[if_pos h1]at h
     exact absurd (congrArg Prod.fst h) h1
theorem zAd {p:Pr} {ft:Int}:∀ (l:List St) (vars:List Pa) (nm:Nm) (names:kM) (frm:Nat) (loop:Bool) (n m c d:Nat),Kn vars nm names→z8 l d=true→zd p ft l vars frm loop n=(0,m)→qO l nm c=qL l names c
 | [],vars,nm,names,frm,loop,n,m,c,d,hK,hs,h=>by rw[qL,qO]
 | .mk k ty name args thn els :: r,vars,nm,names,frm,loop,n,m,c,d,hK,hs,h=>by
   rw[zd]at h;rw[x8,Bool.and_eq_true]at hs;obtain⟨⟨e1,n1⟩,ht⟩:∃ R,chkS p ft (.mk k ty name args thn els) vars frm loop n=R:=⟨_,rfl⟩
   rw[ht]at h;by_cases h2:e1=0
   · subst h2
     rw[if_neg (by simp)]at h;have h3:=dvS_ren (.mk k ty name args thn els) vars nm names frm loop n n1 c d hK hs.1 ht;have hK2:Kn (letS (.mk k ty name args thn els) vars) (dvSN (.mk k ty name args thn els) nm c) (letSN (.mk k ty name args thn els) names c):=hK.let k ty name c;rw[qL,qO,h3,zAd r _ _ _ _ _ _ _ _ _ hK2 hs.2 h]
   · rw[if_pos (by simpa using h2)]at h
     exact absurd (congrArg Prod.fst h) h2
end
theorem Kn.pars:∀ (l:List Pa) (vars:List Pa) (nm:Nm) (names:kM) (n:Nat),Kn vars nm names→Kn (vars++l) (yH l n nm) (names++parN l n)
 | [],vars,nm,names,n,h=>by rw[List.append_nil,yH,parN,List.append_nil];exact h
 | x :: r,vars,nm,names,n,h=>by
   have h1:=Kn.pars r _ _ _ (n+1) (h.snoc x.name x.type n);rw[List.append_assoc,List.append_assoc]at h1;rw[yH,parN];exact h1
theorem dvF_ren {p:Pr} {f:Fu} (hf:k8 f=true) (h:(xM p f).1=0):dvF f=renF f:=by
 unfold xM at h;by_cases h1:ub f.params=true
 · rw[if_pos h1]at h;exact absurd h (by decide)
 rw[if_neg h1]at h;obtain⟨⟨e1,n1⟩,ht⟩:∃ R,zd p f.type f.body f.params f.params.length false 0=R:=⟨_,rfl⟩
 rw[ht]at h;by_cases h2:e1=0
 · subst h2
   unfold k8 at hf;simp only[Bool.and_eq_true]at hf;have hK:Kn f.params (yH f.params 0 fun _=>0) (parN f.params 0):=Kn.pars f.params [] _ [] 0 (fun s hs=>by rw[z5]at hs;cases hs);unfold dvF renF;rw[zAd f.body _ _ _ _ _ _ _ _ _ hK hf.2 ht]
 · rw[if_pos (by simpa using h2)]at h;exact absurd h h2
theorem dvPr_ren {p:Pr} (h:(uJ p).1=0):p.funcs.map dvF=p.funcs.map renF:=by
 have hok:=chkP_ok h;unfold uJ at h;rw[if_neg (by rw[hok];decide)]at h;by_cases h2:(yy p p.arrays || vu p.funcs || !xH p)=true
 · rw[if_pos h2]at h;exact absurd h (by decide)
 rw[if_neg h2]at h;unfold prOK at hok;rw[Bool.and_eq_true]at hok
 have key:∀ (l:List Fu) (i:Nat),l.all k8=true→(yM p l i).1=0→l.map dvF=l.map renF:=by
  intro l
  induction l with
  | nil=>intro _ _ _;rfl
  | cons f r ih=>
    intro i ha hc;rw[List.all_cons,Bool.and_eq_true]at ha;rw[yM]at hc;by_cases h1:(xM p f).1=0
    · rw[if_neg (by simpa using h1)]at hc
      rw[List.map_cons,List.map_cons,dvF_ren ha.1 h1,ih _ ha.2 hc]
    · rw[if_pos (by simpa using h1)]at hc
      exact absurd hc h1
 exact key p.funcs 0 hok.2 h
end Go.Proofs.YtfghofifjnbicaaGreatDoor
namespace Go.Proofs.YtfghofifjnbicaaGreatDoor
open Lib (hid)
open Go.RowKit Go.Maps
theorem str_law:Keyed Tryz.prog 9:=string_keyed Tryz.underlying9
theorem zero_int (w:World):(zeroValue 3).run Tryz.prog w=.ok (.int .i64 0) w:=by kernel_rfl
def keyL (s:ByteArray):Lit:=.string s.data.toList
theorem keyL_ne {s t:ByteArray} (h:s≠t):keyL s≠keyL t:=fun e=>h (by
 unfold keyL at e;injection e with e;cases s;cases t
 simpa[Array.toList_inj] using e)
theorem key_of {s:ByteArray} (hs:s.size≤281474976710656):keyOf Tryz.prog 9 (.string s)=some (keyL s):=WideMaps.keyOf_string_mk Tryz.underlying9 (by unfold maxLen;omega)
def MapIs (w:World) (m n:Nat) (nm:Nm):Prop:=
 ∃ D:DataW Unit,w.ownsMap Tryz.prog 9 (plainElem Tryz.prog 3) m n D∧∀ s:ByteArray,D.atKey (keyL s) (.lit (.int .i64 0))=.lit (.int .i64 (nm s))
theorem MapIs.lt {w:World} {m n:Nat} {nm:Nm} (h:MapIs w m n nm):m<w.heap.size:=by obtain⟨D,h,_⟩:=h;exact h.lt
theorem MapIs.of_block {w w':World} {m n:Nat} {nm:Nm} (h:MapIs w m n nm) (he:w'.heap[m]? =w.heap[m]?):MapIs w' m n nm:=by
 obtain⟨D,⟨es,clock,hb,h2⟩,h3⟩:=h;exact⟨D,⟨es,clock,he.trans hb,h2⟩,h3⟩
theorem MapIs.below {w w':World} {m n:Nat} {nm:Nm} (h:MapIs w m n nm) (hb:Below w.heap.size w w'):MapIs w' m n nm:=h.of_block (hb.block m h.lt)
theorem MapIs.mono {w:World} {m n n':Nat} {nm:Nm} (h:MapIs w m n nm) (hn:n≤n'):MapIs w m n' nm:=by
 obtain⟨D,h,h2⟩:=h;exact⟨D,h.mono hn,h2⟩
theorem owns_map {w:World} {m n:Nat} {D:DataW Unit} (h:w.ownsMap Tryz.prog 9 (plainElem Tryz.prog 3) m n D):IsMap D:=by
 obtain⟨es,clock,_,_,_,hD⟩:=h;exact⟨_,hD⟩
theorem map_put {D:DataW Unit} {nm:Nm} (hD:IsMap D) (h:∀ s:ByteArray,D.atKey (keyL s) (.lit (.int .i64 0))=.lit (.int .i64 (nm s))) (s:ByteArray) (n:Nat):
 ∀ t:ByteArray,(D.put (keyL s) (.lit (.int .i64 (n:Int)))).atKey (keyL t) (.lit (.int .i64 0))=.lit (.int .i64 (upN nm s n t)):=fun t=>by
 unfold upN;by_cases e:t=s
 · subst e
   rw[if_pos rfl];exact atKey_put_same hD (show WideAt.IsKeyLit (.string _) from trivial) _ _
 · rw[if_neg e,←h t]
   exact atKey_put_other (keyL_ne e) _ _
theorem map_made (w:World):MapIs (w.alloc (.map #[] 0)) w.heap.size 0 fun _=>0:=
 ⟨_,World.ownsMap_made _ _ _ _,fun s=>rfl⟩
structure Off2 (b c B:Nat) (w w':World):Prop where
 os:w'.os=w.os
 tape:w'.tape=w.tape
 output:w'.output=w.output
 size:w.heap.size≤w'.heap.size
 block:∀ k,k<B→k≠b→k≠c→w'.heap[k]? =w.heap[k]?
theorem Off2.refl (b c B:Nat) (w:World):Off2 b c B w w:=⟨rfl,rfl,rfl,Nat.le_refl _,fun _ _ _ _=>rfl⟩
theorem Off2.trans {b c B:Nat} {w w' w2:World} (h:Off2 b c B w w') (g:Off2 b c B w' w2):Off2 b c B w w2:=⟨g.os.trans h.os,g.tape.trans h.tape,g.output.trans h.output,Nat.le_trans h.size g.size,fun k h1 h2 h3=>(g.block k h1 h2 h3).trans (h.block k h1 h2 h3)⟩
theorem Off2.mono {b c B B':Nat} {w w':World} (h:Off2 b c B w w') (hB:B'≤B):Off2 b c B' w w':=⟨h.os,h.tape,h.output,h.size,fun k h1 h2 h3=>h.block k (by omega) h2 h3⟩
theorem Off2.of_below {b c B:Nat} {w w':World} (h:Below B w w'):Off2 b c B w w':=⟨h.os,h.tape,h.output,h.size,fun k h1 _ _=>h.block k h1⟩
theorem Off2.below {b c B:Nat} {w w':World} (h:Off2 b c B w w') {N:Nat} (h1:N≤B) (h2:N≤b) (h3:N≤c):Below N w w':=⟨h.os,h.tape,h.output,h.size,fun k hk=>h.block k (by omega) (by omega) (by omega)⟩
theorem Off2.of_off {b c B:Nat} {w w':World} (h:OffB c B w w'):Off2 b c B w w':=⟨(show Below B (hole c w) (hole c w') from h).os,(show Below B (hole c w) (hole c w') from h).tape,(show Below B (hole c w) (hole c w') from h).output,OffB.size h,fun k h1 _ h3=>OffB.block h h1 h3⟩
theorem Off2.grown {b c B:Nat} {w w':World} (hg:w.grownBy w' (some b)) (hB:B≤w.heap.size):Off2 b c B w w':=⟨hg.os,hg.tape,hg.output,hg.size,fun k h1 h2 _=>hg.block k (by omega) (fun e=>h2 (by injection e))⟩
theorem Off2.set {b c B g:Nat} {w w':World} (h:Off2 b c B w w') (hg:B≤g∨g=b∨g=c) (i:Nat) (u:Value):Off2 b c B w (w'.setCell ⟨g,i,none⟩ u):=
 h.trans ⟨rfl,rfl,rfl,by simp[World.setCell],fun k h1 h2 h3=>Below.heap_setCell w' _ u k (by show k≠g;omega)⟩
theorem itoa_n {B:Nat} {w:World} (ht:TreeTab B w) (n:Nat) (hn:n≤9223372036854775807):
 Calls Tryz.prog 93 #[.int .i64 n] w fun e w'=>e=.returned (.string ⟨(Lib.decDigits n).toArray⟩)∧Below w.heap.size w w':=by
 refine(Any.strconv_Itoa Tryz.laysM171 (n:Int) (by omega) (by omega) w (ht.pow w Zb)).mono ?_;rintro e w' ⟨rfl,k,os,hw⟩;have hh:w'.heap=w.heap++os:=by rw[hw];rfl
 have hk:∀ i,i<w.heap.size→w'.heap[i]? =w.heap[i]?:=fun i hi=>by rw[hh,Array.getElem?_append_left hi]
 refine⟨?_,⟨by rw[hw];rfl,by rw[hw];rfl,by rw[hw];rfl,by rw[hh];simp,hk⟩⟩;rw[show Lib.itoa (n:Int)=Lib.decDigits n by unfold Lib.itoa;rw[if_neg (by omega),Int.toNat_natCast]]
theorem vlen {n:Nat} (hn:n≤1000000000):(⟨#[118]⟩:ByteArray).size+(⟨(Lib.decDigits n).toArray⟩:ByteArray).size≤21:=by
 have:=yG n (by omega);show 1+(Lib.decDigits n).length≤21;omega
set_option maxHeartbeats 1000000 in
theorem vname_any {B:Nat} (m k:Nat) (nm:Nm) (s:ByteArray) (w:World) (ht:TreeTab B w) (hM:MapIs w m k nm) (hs:s.size≤281474976710656) (hn:nm s≤1000000000):
 Calls Tryz.prog 78 #[.map (some m),.string s] w fun e w'=>e=.returned (.string (vN (nm s)))∧Below w.heap.size w w':=by
 obtain⟨D,hown,hat⟩:=hM;have HAT:=hid (hat s);have HT:=hid ht;have hlen:=vlen hn;clear hat ht;go_enter Tryz.func78,Tryz.ntmps78
 go_wp2_with (first
  | (at_lookup;refine wpList_lookup_own_int _ rfl _ _ 104 rfl 9 3 .i64 str_law Tryz.underlying104 Tryz.underlying3 (zero_int _) m k D rfl hown _ _ rfl (key_of hs) ?_
     intro c hat hwc
     obtain rfl:(nm s:Int)=c:=by have:=HAT.out.symm.trans hat;simpa using this)
  | (go_at_call 93;(with_reducible refine(itoa_n HT.out (nm s) (by omega)).mono ?_);rintro e w1 ⟨rfl,hb1⟩
     have HB1:=hid hb1
     clear hb1))
 go_ret;exact⟨ur (vN_app (nm s)),HB1.out⟩
abbrev ctrO (x:Int):Obj:=.cells #[.int .i64 x] 3
abbrev nextV (c:Nat):Value:=.func (.func 77) #[] #[.pointer (some ⟨c,0,none⟩)]
set_option maxHeartbeats 1000000 in
theorem tick_any (c:Nat) (x:Int) (w:World) (h:w.heap[c]? =some (ctrO x)) (h0: -1≤x) (h1:x≤1000000000):
 Calls Tryz.prog 77 #[.pointer (some ⟨c,0,none⟩)] w fun e w'=>e=.returned (.int .i64 (x+1))∧OffB c w.heap.size w w'∧w'.heap[c]? =some (ctrO (x+1)):=by
 have hc:c<w.heap.size:=zB h;have c0:w.cell? ⟨c,0,none⟩=some (.int .i64 x):=(Lib.cell_of_heap h 0).trans rfl;have cz:∀ o,w.frozen? ⟨c,o,none⟩=false:=fun o=>by simp[World.frozen?,h]
 have HH:=hid h;clear h;go_enter Tryz.func77,Tryz.ntmps77;go_wp2_with (fail);go_ret;exact⟨rfl,(OffB.refl c w.heap.size w).setb hc 0 _,Lib.heap_setCell_same HH.out _⟩
set_option maxHeartbeats 1000000 in
theorem counter_any (w:World):Calls Tryz.prog 53 #[] w fun e w'=>e=.returned (nextV w.heap.size)∧Below w.heap.size w w'∧w'.heap[w.heap.size]? =some (ctrO (-1))∧w'.heap.size=w.heap.size+1:=by
 have hmf:∀ (fn:Fn) (first cap:Array Value) (w:World),(Instr.makeFunc fn first cap).run Tryz.prog w=.ok (.func fn first cap) w:=fun _ _ _ _=>rfl
 go_enter Tryz.func53,Tryz.ntmps53;go_wp2_with (fail);go_ret;exact⟨rfl,Zb.alloc Zr _,heap_alloc_new w _,zA _ _⟩
def DecPost (m c k n:Nat) (nm:Nm) (s:ByteArray) (w:World) (e:Ending) (w':World):Prop:=
 e=.returned (.string (vN n))∧Off2 m c w.heap.size w w'∧w'.heap[c]? =some (ctrO (((n+1 :Nat):Int)-1))∧MapIs w' m (k+1) (upN nm s n)
set_option maxHeartbeats 2000000 in
theorem declare_any {B:Nat} (m c k n:Nat) (nm:Nm) (s:ByteArray) (w:World) (ht:TreeTab B w) (hBm:B≤m) (hBc:B≤c) (hM:MapIs w m k nm) (hmc:m≠c) (hC:w.heap[c]? =some (ctrO ((n:Int)-1))) (hs:s.size≤281474976710656) (hn:n≤1000000000) (hk:k≤1000000000):
 Calls Tryz.prog 55 #[.map (some m),.string s,nextV c] w (DecPost m c k n nm s w):=by
 have hcs:=zB hC;have hms:=hM.lt;obtain⟨D,hown,hat⟩:=hM;have HAT:=hid hat;have HT:=hid ht;have HC:=hid hC;have HO:=hid hown;have hup:upN nm s n s=n:=by unfold upN;rw[if_pos rfl]
 have HUP:=hid hup;clear hat ht hC hown hup;go_enter Tryz.func55,Tryz.ntmps55
 go_wp2_with (first
  | (go_at_call 77;(with_reducible refine(tick_any c ((n:Int)-1) w HC.out (by omega) (by omega)).mono ?_);rintro e w1 ⟨rfl,ho,hx⟩
     rw[show (n:Int)-1+1=n by omega]at hx ⊢
     have HO1:=hid (show w1.ownsMap Tryz.prog 9 (plainElem Tryz.prog 3) m k D from by
      obtain⟨es,clock,hb,h2⟩:=HO.out
      exact⟨es,clock,(ho.block hms hmc).trans hb,h2⟩)
     have HF1:=hid ho;have HX1:=hid hx;have hz1:w.heap.size≤w1.heap.size:=ho.size
     clear ho hx)
  | (at_mapUpdate;refine wpList_mapUpdate_own _ rfl _ _ _ 104 rfl 9 3 str_law Tryz.underlying104 _ m k _ rfl HO1.out (by unfold maxLen;omega) _ _ _ rfl rfl (key_of hs) _ [] (plainElem_int Tryz.underlying3 (WalkArith.wf_i64 (by omega))) ?_
     intro w2 hown2 hgrow2;have HM2:=hid (show MapIs w2 m (k+1) (upN nm s n) from⟨_,hown2,map_put (owns_map HO1.out) HAT.out s n⟩);have HF2:=hid (show Off2 m c w.heap.size w w2 from(Off2.of_off HF1.out).trans (Off2.grown hgrow2 hz1));have HX2:=hid (show w2.heap[c]? =some (ctrO (n:Int)) from(hgrow2.block c (by omega) (fun e=>hmc (by injection e with e;exact e.symm))).trans HX1.out);have hz2:w1.heap.size≤w2.heap.size:=hgrow2.size;have HT2:=hid (show TreeTab B w2 from HT.out.below (HF2.out.below (by omega) hBm hBc))
     clear hown2 hgrow2)
  | (go_at_call 78;(with_reducible refine(vname_any m (k+1) (upN nm s n) s w2 HT2.out HM2.out hs (by rw[HUP.out];exact hn)).mono ?_);rintro e w3 ⟨rfl,hb⟩
     rw[HUP.out];have HB3:=hid hb
     clear hb))
 go_ret;refine⟨rfl,HF2.out.trans (Off2.of_below (HB3.out.mono (by omega))),?_,HM2.out.below HB3.out⟩;rw[show ((n+1 :Nat):Int)-1=n by omega];exact(HB3.out.block c (by omega)).trans HX2.out
set_option maxHeartbeats 2000000 in
theorem mclone_any (m k:Nat) (nm:Nm) (w:World) (hM:MapIs w m k nm):
 Calls Tryz.prog 80 #[.map (some m)] w fun e w'=>e=.returned (.map (some w.heap.size))∧MapIs w' w.heap.size k nm∧Below w.heap.size w w'∧w'.heap.size=w.heap.size+1:=by
 obtain⟨D,⟨es,clock,hb,F,hs,hD⟩,hat⟩:=hM;have HB:=hid hb;have hq:=fun w=>run_eql_map_nil_sl (P:=Tryz.prog) w 104 _ _ (some m) Tryz.underlying104
 have HR:=hid (show MapIs (w.alloc (.map es clock)) w.heap.size k nm from⟨D,⟨es,clock,(MapKept.heap_alloc w _).1,F,hs,hD⟩,hat⟩);clear hb F hs hD hat;go_enter Tryz.func80,Tryz.ntmps80;go_wp2;rw[run_callFunc_extern Tryz.func94 (by kernel_rfl) (by kernel_rfl) (by kernel_rfl) (e:=Extern.MapsClone.clone) (by kernel_rfl),run_maps_clone_sl w 104 HB.out];simp only[Result.andThen];rw[Oper.upon_value];go_wp2;rw[run_typeAssert_map_sl _ 104 20 _ _ _ Tryz.underlying104];simp only[Result.andThen];rw[Oper.upon_value];go_wp2;go_ret;exact⟨rfl,HR.out,(Below.refl _ w).alloc Zr _,zA _ _⟩
end Go.Proofs.YtfghofifjnbicaaGreatDoor
namespace Go.Proofs.YtfghofifjnbicaaGreatDoor
open Lib (hid)
open Go.RowKit
theorem ex_info2:(Tryz.prog.info? 116).map (fun i=>(i.zero,i.size,i.bytes))=some (some (.agg #[.int .i64 0,.int .i64 0,.int .i64 0,.string ⟨#[]⟩,.slice none 0 0]),5,64):=by kernel_rfl
theorem st_info2:(Tryz.prog.info? 88).map (fun i=>(i.zero,i.size,i.bytes))=some (some (.agg #[.int .i64 0,.int .i64 0,.string ⟨#[]⟩,.slice none 0 0,.slice none 0 0,.slice none 0 0]),6,104):=by kernel_rfl
def ClPost {β:Type} (K:Knd β) (os:List β) (w:World) (e:Ending) (w':World):Prop:=∃ v,e=.returned v∧w'.ownsRow w.heap.size K.T K.n v os.length (os.flatMap K.cs)∧Below w.heap.size w w'
set_option maxHeartbeats 2000000 in
theorem clone_exs {N:Nat} (A:Option Addr) (n c:Nat) (os:List (Ex × Value)) (w:World) (h:Src kX N w A n os) (hn9:n≤1000000000):
 Calls Tryz.prog 110 #[.slice A n c] w (ClPost kX os w):=by
 obtain⟨i0,hi,hz0,hz1,hz2⟩:=info_parts ex_info2;have hq:∀ (w:World) (a:Option Addr) (n c n' c':Nat),(binOp .eql 86 (.slice a n c) (.slice none n' c')).run Tryz.prog w=.ok (.bool a.isNone) w:=fun w a n c n' c'=>Lib.run_eql_slice_nil w _ _ a n c n' c' Tryz.underlying86
 have H:=hid h;have hn:=h.le;clear h;cases A with
 | none=>
   go_enter Tryz.func110,Tryz.ntmps110;go_wp2_with (fail);go_ret;have h0:os=[]:=List.eq_nil_of_length_eq_zero (by rw[←H.out.len,H.out.nil rfl]);subst h0;exact⟨_,rfl,World.ownsRow_nil _ _ _ _,Below.refl _ _⟩
 | some ad=>
   go_enter Tryz.func110,Tryz.ntmps110;go_wp2_with (at_builtin;refine wpList_append_own _ rfl _ _ 86 rfl w.heap.size 116 i0 _ 5 64 Tryz.underlying86 hi hz0 hz1 hz2 rfl (by omega) _ _ _ rfl (World.ownsRow_made w #[] 0 Zr (Nat.zero_le _) (by simp)) ad n c (os.flatMap kX.cs) rfl ?qc1 ?qc2 ?qc3 ?qc4 ?qc5 ?qc6 ?_)
   case qc1=>exact H.out.elems
   case qc2=>exact fun j u hj=>Lib.cell?_alloc_some _ (H.out.cel ad rfl j u hj).2
   case qc3=>exact cs_one kX kX_one H.out.inn
   case qc4=>unfold maxLen;omega
   case qc5=>omega
   case qc6=>simp
   intro v' w1 hown hgrow hnil;have HO:=hid hown;have HB:=hid (show Below w.heap.size w w1 from((Below.refl _ w).alloc Zr _).grown hgrow (by simp) (by intro k hk;simp[Value.ownBlock]at hk;omega));clear hown hgrow hnil;go_wp2_with (fail);go_ret;refine⟨v',rfl,?_,HB.out⟩;rw[←H.out.len];have h1:w1.ownsRow w.heap.size 116 5 v' n (os.flatMap kX.cs):=by simpa using HO.out
   exact h1
set_option maxHeartbeats 2000000 in
theorem clone_sts {N:Nat} (A:Option Addr) (n c:Nat) (os:List StP4) (w:World) (h:Src kS4 N w A n os) (hn9:n≤1000000000):
 Calls Tryz.prog 79 #[.slice A n c] w (ClPost kS4 os w):=by
 obtain⟨i0,hi,hz0,hz1,hz2⟩:=info_parts st_info2;have hq:∀ (w:World) (a:Option Addr) (n c n' c':Nat),(binOp .eql 43 (.slice a n c) (.slice none n' c')).run Tryz.prog w=.ok (.bool a.isNone) w:=fun w a n c n' c'=>Lib.run_eql_slice_nil w _ _ a n c n' c' Tryz.underlying43
 have H:=hid h;have hn:=h.le;clear h;cases A with
 | none=>
   go_enter Tryz.func79,Tryz.ntmps79;go_wp2_with (fail);go_ret;have h0:os=[]:=List.eq_nil_of_length_eq_zero (by rw[←H.out.len,H.out.nil rfl]);subst h0;exact⟨_,rfl,World.ownsRow_nil _ _ _ _,Below.refl _ _⟩
 | some ad=>
   go_enter Tryz.func79,Tryz.ntmps79;go_wp2_with (at_builtin;refine wpList_append_own _ rfl _ _ 43 rfl w.heap.size 88 i0 _ 6 104 Tryz.underlying43 hi hz0 hz1 hz2 rfl (by omega) _ _ _ rfl (World.ownsRow_made w #[] 0 Zr (Nat.zero_le _) (by simp)) ad n c (os.flatMap kS4.cs) rfl ?qc1 ?qc2 ?qc3 ?qc4 ?qc5 ?qc6 ?_)
   case qc1=>exact H.out.elems
   case qc2=>exact fun j u hj=>Lib.cell?_alloc_some _ (H.out.cel ad rfl j u hj).2
   case qc3=>exact cs_one kS4 kS4_one H.out.inn
   case qc4=>unfold maxLen;omega
   case qc5=>omega
   case qc6=>simp
   intro v' w1 hown hgrow hnil;have HO:=hid hown;have HB:=hid (show Below w.heap.size w w1 from((Below.refl _ w).alloc Zr _).grown hgrow (by simp) (by intro k hk;simp[Value.ownBlock]at hk;omega));clear hown hgrow hnil;go_wp2_with (fail);go_ret;refine⟨v',rfl,?_,HB.out⟩;rw[←H.out.len];have h1:w1.ownsRow w.heap.size 88 6 v' n (os.flatMap kS4.cs):=by simpa using HO.out
   exact h1
set_option maxHeartbeats 2000000 in
theorem clone_pas {N:Nat} (A:Option Addr) (n c:Nat) (os:List Pa) (w:World) (h:Src kP N w A n os) (hn9:n≤1000000000):
 Calls Tryz.prog 54 #[.slice A n c] w (ClPost kP os w):=by
 obtain⟨i0,hi,hz0,hz1,hz2⟩:=info_parts pa_info2;have hq:∀ (w:World) (a:Option Addr) (n c n' c':Nat),(binOp .eql 42 (.slice a n c) (.slice none n' c')).run Tryz.prog w=.ok (.bool a.isNone) w:=fun w a n c n' c'=>Lib.run_eql_slice_nil w _ _ a n c n' c' Tryz.underlying42
 have H:=hid h;have hn:=h.le;clear h;cases A with
 | none=>
   go_enter Tryz.func54,Tryz.ntmps54;go_wp2_with (fail);go_ret;have h0:os=[]:=List.eq_nil_of_length_eq_zero (by rw[←H.out.len,H.out.nil rfl]);subst h0;exact⟨_,rfl,World.ownsRow_nil _ _ _ _,Below.refl _ _⟩
 | some ad=>
   go_enter Tryz.func54,Tryz.ntmps54;go_wp2_with (at_builtin;refine wpList_append_own _ rfl _ _ 42 rfl w.heap.size 47 i0 _ 2 24 Tryz.underlying42 hi hz0 hz1 hz2 rfl (by omega) _ _ _ rfl (World.ownsRow_made w #[] 0 Zr (Nat.zero_le _) (by simp)) ad n c (os.flatMap kP.cs) rfl ?qc1 ?qc2 ?qc3 ?qc4 ?qc5 ?qc6 ?_)
   case qc1=>exact H.out.elems
   case qc2=>exact fun j u hj=>Lib.cell?_alloc_some _ (H.out.cel ad rfl j u hj).2
   case qc3=>exact cs_one kP kP_one H.out.inn
   case qc4=>unfold maxLen;omega
   case qc5=>omega
   case qc6=>simp
   intro v' w1 hown hgrow hnil;have HO:=hid hown;have HB:=hid (show Below w.heap.size w w1 from((Below.refl _ w).alloc Zr _).grown hgrow (by simp) (by intro k hk;simp[Value.ownBlock]at hk;omega));clear hown hgrow hnil;go_wp2_with (fail);go_ret;refine⟨v',rfl,?_,HB.out⟩;rw[←H.out.len];have h1:w1.ownsRow w.heap.size 47 2 v' n (os.flatMap kP.cs):=by simpa using HO.out
   exact h1
set_option maxHeartbeats 2000000 in
theorem clone_ars {N:Nat} (A:Option Addr) (n c:Nat) (os:List Ar) (w:World) (h:Src kA N w A n os) (hn9:n≤1000000000):
 Calls Tryz.prog 20 #[.slice A n c] w (ClPost kA os w):=by
 obtain⟨i0,hi,hz0,hz1,hz2⟩:=info_parts ar_info;have hq:∀ (w:World) (a:Option Addr) (n c n' c':Nat),(binOp .eql 23 (.slice a n c) (.slice none n' c')).run Tryz.prog w=.ok (.bool a.isNone) w:=fun w a n c n' c'=>Lib.run_eql_slice_nil w _ _ a n c n' c' Tryz.underlying23
 have H:=hid h;have hn:=h.le;clear h;cases A with
 | none=>
   go_enter Tryz.func20,Tryz.ntmps20;go_wp2_with (fail);go_ret;have h0:os=[]:=List.eq_nil_of_length_eq_zero (by rw[←H.out.len,H.out.nil rfl]);subst h0;exact⟨_,rfl,World.ownsRow_nil _ _ _ _,Below.refl _ _⟩
 | some ad=>
   go_enter Tryz.func20,Tryz.ntmps20;go_wp2_with (at_builtin;refine wpList_append_own _ rfl _ _ 23 rfl w.heap.size 62 i0 _ 2 24 Tryz.underlying23 hi hz0 hz1 hz2 rfl (by omega) _ _ _ rfl (World.ownsRow_made w #[] 0 Zr (Nat.zero_le _) (by simp)) ad n c (os.flatMap kA.cs) rfl ?qc1 ?qc2 ?qc3 ?qc4 ?qc5 ?qc6 ?_)
   case qc1=>exact H.out.elems
   case qc2=>exact fun j u hj=>Lib.cell?_alloc_some _ (H.out.cel ad rfl j u hj).2
   case qc3=>exact cs_one kA kA_one H.out.inn
   case qc4=>unfold maxLen;omega
   case qc5=>omega
   case qc6=>simp
   intro v' w1 hown hgrow hnil;have HO:=hid hown;have HB:=hid (show Below w.heap.size w w1 from((Below.refl _ w).alloc Zr _).grown hgrow (by simp) (by intro k hk;simp[Value.ownBlock]at hk;omega));clear hown hgrow hnil;go_wp2_with (fail);go_ret;refine⟨v',rfl,?_,HB.out⟩;rw[←H.out.len];have h1:w1.ownsRow w.heap.size 62 2 v' n (os.flatMap kA.cs):=by simpa using HO.out
   exact h1
set_option maxHeartbeats 2000000 in
theorem clone_fus {N:Nat} (A:Option Addr) (n c:Nat) (os:List FuV) (w:World) (h:Src kF N w A n os) (hn9:n≤1000000000):
 Calls Tryz.prog 21 #[.slice A n c] w (ClPost kF os w):=by
 obtain⟨i0,hi,hz0,hz1,hz2⟩:=info_parts fu_info;have hq:∀ (w:World) (a:Option Addr) (n c n' c':Nat),(binOp .eql 24 (.slice a n c) (.slice none n' c')).run Tryz.prog w=.ok (.bool a.isNone) w:=fun w a n c n' c'=>Lib.run_eql_slice_nil w _ _ a n c n' c' Tryz.underlying24
 have H:=hid h;have hn:=h.le;clear h;cases A with
 | none=>
   go_enter Tryz.func21,Tryz.ntmps21;go_wp2_with (fail);go_ret;have h0:os=[]:=List.eq_nil_of_length_eq_zero (by rw[←H.out.len,H.out.nil rfl]);subst h0;exact⟨_,rfl,World.ownsRow_nil _ _ _ _,Below.refl _ _⟩
 | some ad=>
   go_enter Tryz.func21,Tryz.ntmps21;go_wp2_with (at_builtin;refine wpList_append_own _ rfl _ _ 24 rfl w.heap.size 45 i0 _ 4 72 Tryz.underlying24 hi hz0 hz1 hz2 rfl (by omega) _ _ _ rfl (World.ownsRow_made w #[] 0 Zr (Nat.zero_le _) (by simp)) ad n c (os.flatMap kF.cs) rfl ?qc1 ?qc2 ?qc3 ?qc4 ?qc5 ?qc6 ?_)
   case qc1=>exact H.out.elems
   case qc2=>exact fun j u hj=>Lib.cell?_alloc_some _ (H.out.cel ad rfl j u hj).2
   case qc3=>exact cs_one kF kF_one H.out.inn
   case qc4=>unfold maxLen;omega
   case qc5=>omega
   case qc6=>simp
   intro v' w1 hown hgrow hnil;have HO:=hid hown;have HB:=hid (show Below w.heap.size w w1 from((Below.refl _ w).alloc Zr _).grown hgrow (by simp) (by intro k hk;simp[Value.ownBlock]at hk;omega));clear hown hgrow hnil;go_wp2_with (fail);go_ret;refine⟨v',rfl,?_,HB.out⟩;rw[←H.out.len];have h1:w1.ownsRow w.heap.size 45 4 v' n (os.flatMap kF.cs):=by simpa using HO.out
   exact h1
end Go.Proofs.YtfghofifjnbicaaGreatDoor
