import Derived.Test.YtfghofifjnbicaaGreatDoorAiTyMath
import Derived.Test.YtfghofifjnbicaaGreatDoorAiParTot
set_option linter.unusedSimpArgs false
set_option linter.unusedVariables false
set_option maxRecDepth 100000
/- Variables get names of their own: no Go, no program. -/
namespace Go.Proofs.YtfghofifjnbicaaGreatDoor
open Lib (hid)
open Go.RowKit
abbrev jE:=List (ByteArray × ByteArray)
def xJ:jE→ByteArray→Option ByteArray
 | [],_=>none
 | x :: r,s=>match xJ r s with
   | some t=>some t
   | none=>if x.1=s then some x.2 else none
def fnd (l:jE) (s:ByteArray):ByteArray:=(xJ l s).getD s
def vN (n:Nat):ByteArray:=⟨(118 :: Lib.decDigits n).toArray⟩
mutual
def uv (names:jE):Ex→Ex
 | .mk k op n name args=>.mk k op n (if k=3 then fnd names name else name) (qO names args)
def qO (names:jE):List Ex→List Ex
 | []=>[]
 | e :: r=>uv names e :: qO names r
end
def jF (k:Int) (name:ByteArray) (all:jE) (n:Nat):jE:=if k=1 then all++[(name,vN n)] else all
def jG (k:Int) (n:Nat):Nat:=if k=1 then n+1 else n
def u6:St→jE→Nat→jE
 | .mk k _ name _ _ _,all,n=>jF k name all n
mutual
def je:St→jE→Nat→St × Nat
 | .mk k ty name args thn els,all,n=>
   (.mk k ty (if k=1∨k=2 then fnd (jF k name all n) name else name) (qO all args) (z6 thn (jF k name all n) (jG k n)).1 (z6 els (jF k name all n) (z6 thn (jF k name all n) (jG k n)).2).1,
     (z6 els (jF k name all n) (z6 thn (jF k name all n) (jG k n)).2).2)
def z6:List St→jE→Nat→List St × Nat
 | [],_,n=>([],n)
 | s :: r,all,n=>((je s all n).1 :: (z6 r (u6 s all n) (je s all n).2).1,(z6 r (u6 s all n) (je s all n).2).2)
end
def parN:List Pa→Nat→jE
 | [],_=>[]
 | x :: r,n=>(x.name,vN n) :: parN r (n+1)
def renPs:List Pa→Nat→List Pa
 | [],_=>[]
 | x :: r,n=>⟨vN n,x.type⟩ :: renPs r (n+1)
def kM (f:Fu):Fu:=⟨f.name,f.type,renPs f.params 0,(z6 f.body (parN f.params 0) f.params.length).1⟩
def qn (p:Pr):Pr:=⟨p.arrays,p.funcs.map kM⟩
theorem uC (names:jE):∀ l:List Ex,(qO names l).length=l.length
 | []=>by rw[qO]
 | e :: r=>by rw[qO,List.length_cons,List.length_cons,uC names r]
theorem renSs_len:∀ (l:List St) (all:jE) (n:Nat),(z6 l all n).1.length=l.length
 | [],_,_=>by rw[z6]
 | s :: r,all,n=>by rw[z6,List.length_cons,List.length_cons,renSs_len r]
theorem jr:∀ (l:List Pa) (n:Nat),(renPs l n).length=l.length
 | [],_=>rfl
 | x :: r,n=>by rw[renPs,List.length_cons,List.length_cons,jr r]
theorem renPs_types:∀ (l:List Pa) (n:Nat),(renPs l n).map (·.type)=l.map (·.type)
 | [],_=>rfl
 | x :: r,n=>by rw[renPs,List.map_cons,List.map_cons,renPs_types r]
theorem vc:∀ (l:List Fu) (s:ByteArray),zy (l.map kM) s=zy l s
 | [],_=>rfl
 | f :: r,s=>by rw[List.map_cons,zy,zy,vc r];rfl
theorem funT_ren (p:Pr) (s:ByteArray):kd (qn p) s=(kd p s).map kM:=by
 unfold kd qn;dsimp only;rw[vc];cases zy p.funcs s with
 | none=>rfl
 | some k=>simp[List.getElem?_map]
theorem vN_inj {m n:Nat} (h:vN m=vN n):m=n:=by
 unfold vN at h
 have h1:(118 :: Lib.decDigits m)=(118 :: Lib.decDigits n):=by
  have:=congrArg (fun b:ByteArray=>b.data.toList) h;simpa using this
 have h2:Lib.decDigits m=Lib.decDigits n:=by simpa using h1
 have h3:j8 0 (Lib.decDigits m)=j8 0 (Lib.decDigits n):=by rw[h2]
 rwa [decV_digits,decV_digits]at h3
def Al:List Pa→jE→List Pa→Prop
 | [],[],[]=>True
 | x :: r,q :: rs,y :: ys=>q.1=x.name∧y.name=q.2∧y.type=x.type∧Al r rs ys
 | _,_,_=>False
theorem Al.len:∀ {a:List Pa} {b:jE} {c:List Pa},Al a b c→b.length=a.length∧c.length=a.length
 | [],[],[],_=>⟨rfl,rfl⟩
 | x :: r,q :: rs,y :: ys,h=>by
   obtain⟨_,_,_,h⟩:=h;have:=h.len;simp only[List.length_cons];omega
theorem Al.snoc:∀ {a:List Pa} {b:jE} {c:List Pa},Al a b c→∀ (s:ByteArray) (t:Int) (n:ByteArray),Al (a++[⟨s,t⟩]) (b++[(s,n)]) (c++[⟨n,t⟩])
 | [],[],[],_,s,t,n=>⟨rfl,rfl,rfl,trivial⟩
 | x :: r,q :: rs,y :: ys,h,s,t,n=>⟨h.1,h.2.1,h.2.2.1,h.2.2.2.snoc s t n⟩
theorem Al.none:∀ {a:List Pa} {b:jE} {c:List Pa},Al a b c→∀ {s:ByteArray},zQ a s=none→xJ b s=none
 | [],[],[],_,s,_=>rfl
 | x :: r,q :: rs,y :: ys,h,s,hv=>by
   obtain⟨h1,_,_,h4⟩:=h;rw[zQ]at hv;cases hr:zQ r s with
   | some t=>rw[hr]at hv;cases hv
   | none=>
     rw[hr]at hv;rw[xJ,h4.none hr,h1];by_cases e:x.name=s
     · rw[if_pos e]at hv;cases hv
     · exact if_neg e
theorem Al.mem:∀ {a:List Pa} {b:jE} {c:List Pa},Al a b c→∀ {s:ByteArray} {t:Int},zQ c s=some t→s ∈ b.map (·.2)
 | [],[],[],_,s,t,hv=>by rw[zQ]at hv;cases hv
 | x :: r,q :: rs,y :: ys,h,s,t,hv=>by
   obtain⟨_,h2,_,h4⟩:=h;rw[zQ]at hv;rw[List.map_cons,List.mem_cons];cases hr:zQ ys s with
   | some u=>exact .inr (h4.mem hr)
   | none=>
     rw[hr]at hv;by_cases e:y.name=s
     · exact .inl (by rw[←e,h2])
     · rw[show (if y.name=s then some y.type else Option.none)=Option.none from if_neg e]at hv;cases hv
theorem Al.find:∀ {a:List Pa} {b:jE} {c:List Pa},Al a b c→(b.map (·.2)).Nodup→∀ {s:ByteArray} {t:Int},zQ a s=some t→∃ s',xJ b s=some s'∧zQ c s'=some t
 | [],[],[],_,_,s,t,hv=>by rw[zQ]at hv;cases hv
 | x :: r,q :: rs,y :: ys,h,hd,s,t,hv=>by
   obtain⟨h1,h2,h3,h4⟩:=h;rw[List.map_cons,List.nodup_cons]at hd;rw[zQ]at hv;cases hr:zQ r s with
   | some u=>
     rw[hr]at hv;injection hv with hv;subst hv;obtain⟨s',h5,h6⟩:=h4.find hd.2 hr;exact⟨s',by rw[xJ,h5],by rw[zQ,h6]⟩
   | none=>
     rw[hr]at hv;by_cases e:x.name=s
     · rw[show (if x.name=s then some x.type else Option.none)=some x.type from if_pos e]at hv
       injection hv with hv;refine⟨q.2,?_,?_⟩
       · rw[xJ,h4.none hr,h1]
         exact if_pos e
       · rw[zQ]
         cases hy:zQ ys q.2 with
         | some u=>exact absurd (h4.mem hy) hd.1
         | none=>rw[←hv,←h3];exact if_pos h2
     · rw[show (if x.name=s then some x.type else Option.none)=Option.none from if_neg e]at hv;cases hv
theorem typEs_inl {p:Pr} {vars:List Pa}:∀ {l:List Ex} {x:Int},zb p vars l=.inl x→x≠0
 | [],x,h=>by rw[zb]at h;cases h
 | e :: r,x,h=>by
   rw[zb]at h;by_cases h0:(zr p vars e).2=0
   · rw[if_neg (by simpa using h0)]at h
     cases hr:zb p vars r with
     | inl y=>rw[hr]at h;injection h with h;subst h;exact typEs_inl hr
     | inr l=>rw[hr]at h;cases h
   · rw[if_pos h0]at h
     injection h with h;rw[←h];exact h0
theorem vd {l:jE} {s t:ByteArray} (h:xJ l s=some t):fnd l s=t:=by unfold fnd;rw[h];rfl
theorem hasN_ren {p:Pr} {vars vars':List Pa} {names:jE} (hA:Al vars names vars') (hd:(names.map (·.2)).Nodup) {k:Int} {s:ByteArray} (h:ja p vars k s=true):ja (qn p) vars' k (if k=3 then fnd names s else s)=true:=by
 unfold ja at *;by_cases h3:k=3
 · subst h3
   rw[if_pos rfl]at h ⊢;obtain⟨t,ht⟩:=Option.isSome_iff_exists.1 h;obtain⟨s',h5,h6⟩:=hA.find hd ht;rw[if_pos rfl,vd h5,h6];rfl
 · rw[if_neg h3]at h ⊢
   rw[if_neg h3];by_cases h6:k=6
   · rw[if_pos h6]at h ⊢;exact h
   · rw[if_neg h6]at h ⊢
     by_cases h7:k=7
     · rw[if_pos h7]at h ⊢
       show (zy (p.funcs.map kM) s).isSome=true;rw[vc];exact h
     · rw[if_neg h7]
theorem fitsN_ren (p:Pr) (names:jE) (k:Int) (s:ByteArray) (n:Nat):jz (qn p) k (if k=3 then fnd names s else s) n=jz p k s n:=by
 unfold jz;by_cases h7:k=7
 · subst h7
   rw[if_pos rfl,if_pos rfl,if_neg (by decide),funT_ren];cases kd p s with
   | none=>rfl
   | some f=>show decide (n=(renPs f.params 0).length)=_;rw[jr]
 · rw[if_neg h7,if_neg h7]
theorem nodeY_ren {p:Pr} {vars vars':List Pa} {names:jE} (hA:Al vars names vars') (hd:(names.map (·.2)).Nodup) {k:Int} {s:ByteArray} (h:ja p vars k s=true) (op:Int) (l:List Int):qe (qn p) vars' k op (if k=3 then fnd names s else s) l=qe p vars k op s l:=by
 unfold qe;by_cases h2:k=2
 · rw[if_pos h2,if_pos h2]
 rw[if_neg h2,if_neg h2];by_cases h3:k=3
 · subst h3
   unfold ja at h;rw[if_pos rfl]at h;obtain⟨t,ht⟩:=Option.isSome_iff_exists.1 h;obtain⟨s',h5,h6⟩:=hA.find hd ht;rw[if_pos rfl,if_pos rfl,if_pos rfl,vd h5,h6,ht]
 rw[if_neg h3,if_neg h3,if_neg h3];by_cases h7:k=7
 · rw[if_pos h7,if_pos h7,funT_ren]
   cases kd p s with
   | none=>rfl
   | some f=>
     show (if l=(renPs f.params 0).map (·.type) then _ else _)=_;rw[renPs_types];rfl
 rw[if_neg h7,if_neg h7]
mutual
theorem typE_ren {p:Pr} {vars vars':List Pa} {names:jE} (hA:Al vars names vars') (hd:(names.map (·.2)).Nodup):∀ e:Ex,(zr p vars e).2=0→zr (qn p) vars' (uv names e)=zr p vars e
 | .mk k op n name args,h=>by
   rw[uv,zr,zr];rw[zr]at h;by_cases h1:ja p vars k name=false
   · rw[if_pos h1]at h;exact absurd h (by decide)
   rw[if_neg h1]at h ⊢;have h1':ja p vars k name=true:=by simpa using h1
   rw[if_neg (by rw[hasN_ren hA hd h1'];decide),fitsN_ren,uC];by_cases h2:jz p k name args.length=false
   · rw[if_pos h2]at h;exact absurd h (by decide)
   rw[if_neg h2]at h ⊢;rw[if_neg h2];cases ha:zb p vars args with
   | inl x=>rw[ha]at h;exact absurd h (typEs_inl ha)
   | inr l=>rw[typEs_ren hA hd args l ha];exact nodeY_ren hA hd h1' op l
theorem typEs_ren {p:Pr} {vars vars':List Pa} {names:jE} (hA:Al vars names vars') (hd:(names.map (·.2)).Nodup):∀ (l:List Ex) (ts:List Int),zb p vars l=.inr ts→zb (qn p) vars' (qO names l)=.inr ts
 | [],ts,h=>by rw[qO,zb];rwa [zb]at h
 | e :: r,ts,h=>by
   rw[zb]at h;by_cases h0:(zr p vars e).2=0
   · rw[if_neg (by simpa using h0)]at h
     rw[qO,zb,typE_ren hA hd e h0,if_neg (by simpa using h0)];cases hr:zb p vars r with
     | inl x=>rw[hr]at h;cases h
     | inr l=>rw[hr]at h;rw[typEs_ren hA hd r l hr];exact h
   · rw[if_pos h0]at h;cases h
end
theorem ks {p:Pr} {vars vars':List Pa} {names:jE} (hA:Al vars names vars') (hd:(names.map (·.2)).Nodup) {e:Ex} {t:Int} (h:qG p vars e t=0):qG (qn p) vars' (uv names e) t=0:=by
 unfold qG at *;by_cases h0:(zr p vars e).2=0
 · rw[typE_ren hA hd e h0];exact h
 · rw[if_neg h0]at h;exact absurd h h0
theorem ki (names:jE):∀ (l:List Ex) (i:Nat),(qO names l).getD i kf=uv names (l.getD i kf)
 | [],i=>by simp[qO,kf,uv]
 | e :: r,0=>by rw[qO];rfl
 | e :: r,i+1=>by rw[qO];exact ki names r i
end Go.Proofs.YtfghofifjnbicaaGreatDoor
