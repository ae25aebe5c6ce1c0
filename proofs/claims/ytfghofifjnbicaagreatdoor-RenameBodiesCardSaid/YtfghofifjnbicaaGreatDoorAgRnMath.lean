import Derived.Test.YtfghofifjnbicaaGreatDoorAgTyMath
import Derived.Test.YtfghofifjnbicaaGreatDoorAgParTot
set_option linter.unusedSimpArgs false
set_option linter.unusedVariables false
set_option maxRecDepth 100000
/- Variables get names of their own: no Go, no program. -/
namespace Go.Proofs.YtfghofifjnbicaaGreatDoor
open Lib (hid)
open Go.RowKit
abbrev ja:=List (ByteArray × ByteArray)
def xB:ja→ByteArray→Option ByteArray
 | [],_=>none
 | x :: r,s=>match xB r s with
   | some t=>some t
   | none=>if x.1=s then some x.2 else none
def fnd (l:ja) (s:ByteArray):ByteArray:=(xB l s).getD s
def vN (n:Nat):ByteArray:=⟨(118 :: Lib.decDigits n).toArray⟩
mutual
def renE (names:ja):Ex→Ex
 | .mk k op n name args=>.mk k op n (if k=3 then fnd names name else name) (qe names args)
def qe (names:ja):List Ex→List Ex
 | []=>[]
 | e :: r=>renE names e :: qe names r
end
def kR (k:Int) (name:ByteArray) (all:ja) (n:Nat):ja:=if k=1 then all++[(name,vN n)] else all
def kV (k:Int) (n:Nat):Nat:=if k=1 then n+1 else n
def letSN:St→ja→Nat→ja
 | .mk k _ name _ _ _,all,n=>kR k name all n
mutual
def renS:St→ja→Nat→St × Nat
 | .mk k ty name args thn els,all,n=>
   (.mk k ty (if k=1∨k=2 then fnd (kR k name all n) name else name) (qe all args) (qL thn (kR k name all n) (kV k n)).1 (qL els (kR k name all n) (qL thn (kR k name all n) (kV k n)).2).1,
     (qL els (kR k name all n) (qL thn (kR k name all n) (kV k n)).2).2)
def qL:List St→ja→Nat→List St × Nat
 | [],_,n=>([],n)
 | s :: r,all,n=>((renS s all n).1 :: (qL r (letSN s all n) (renS s all n).2).1,(qL r (letSN s all n) (renS s all n).2).2)
end
def parN:List Pa→Nat→ja
 | [],_=>[]
 | x :: r,n=>(x.name,vN n) :: parN r (n+1)
def renPs:List Pa→Nat→List Pa
 | [],_=>[]
 | x :: r,n=>⟨vN n,x.type⟩ :: renPs r (n+1)
def renF (f:Fu):Fu:=⟨f.name,f.type,renPs f.params 0,(qL f.body (parN f.params 0) f.params.length).1⟩
def renPr (p:Pr):Pr:=⟨p.arrays,p.funcs.map renF⟩
theorem kL (names:ja):∀ l:List Ex,(qe names l).length=l.length
 | []=>by rw[qe]
 | e :: r=>by rw[qe,List.length_cons,List.length_cons,kL names r]
theorem kl:∀ (l:List St) (all:ja) (n:Nat),(qL l all n).1.length=l.length
 | [],_,_=>by rw[qL]
 | s :: r,all,n=>by rw[qL,List.length_cons,List.length_cons,kl r]
theorem xY:∀ (l:List Pa) (n:Nat),(renPs l n).length=l.length
 | [],_=>rfl
 | x :: r,n=>by rw[renPs,List.length_cons,List.length_cons,xY r]
theorem vN_inj {m n:Nat} (h:vN m=vN n):m=n:=by
 unfold vN at h
 have h1:(118 :: Lib.decDigits m)=(118 :: Lib.decDigits n):=by
  have:=congrArg (fun b:ByteArray=>b.data.toList) h;simpa using this
 have h2:Lib.decDigits m=Lib.decDigits n:=by simpa using h1
 have h3:jU 0 (Lib.decDigits m)=jU 0 (Lib.decDigits n):=by rw[h2]
 rwa [decV_digits,decV_digits]at h3
def Al:List Pa→ja→List Pa→Prop
 | [],[],[]=>True
 | x :: r,q :: rs,y :: ys=>q.1=x.name∧y.name=q.2∧y.type=x.type∧Al r rs ys
 | _,_,_=>False
theorem Al.len:∀ {a:List Pa} {b:ja} {c:List Pa},Al a b c→b.length=a.length∧c.length=a.length
 | [],[],[],_=>⟨rfl,rfl⟩
 | x :: r,q :: rs,y :: ys,h=>by
   obtain⟨_,_,_,h⟩:=h;have:=h.len;simp only[List.length_cons];omega
theorem Al.snoc:∀ {a:List Pa} {b:ja} {c:List Pa},Al a b c→∀ (s:ByteArray) (t:Int) (n:ByteArray),Al (a++[⟨s,t⟩]) (b++[(s,n)]) (c++[⟨n,t⟩])
 | [],[],[],_,s,t,n=>⟨rfl,rfl,rfl,trivial⟩
 | x :: r,q :: rs,y :: ys,h,s,t,n=>⟨h.1,h.2.1,h.2.2.1,h.2.2.2.snoc s t n⟩
theorem Al.none:∀ {a:List Pa} {b:ja} {c:List Pa},Al a b c→∀ {s:ByteArray},zW a s=none→xB b s=none
 | [],[],[],_,s,_=>rfl
 | x :: r,q :: rs,y :: ys,h,s,hv=>by
   obtain⟨h1,_,_,h4⟩:=h;rw[zW]at hv;cases hr:zW r s with
   | some t=>rw[hr]at hv;cases hv
   | none=>
     rw[hr]at hv;rw[xB,h4.none hr,h1];by_cases e:x.name=s
     · rw[if_pos e]at hv;cases hv
     · exact if_neg e
theorem Al.mem:∀ {a:List Pa} {b:ja} {c:List Pa},Al a b c→∀ {s:ByteArray} {t:Int},zW c s=some t→s ∈ b.map (·.2)
 | [],[],[],_,s,t,hv=>by rw[zW]at hv;cases hv
 | x :: r,q :: rs,y :: ys,h,s,t,hv=>by
   obtain⟨_,h2,_,h4⟩:=h;rw[zW]at hv;rw[List.map_cons,List.mem_cons];cases hr:zW ys s with
   | some u=>exact .inr (h4.mem hr)
   | none=>
     rw[hr]at hv;by_cases e:y.name=s
     · exact .inl (by rw[←e,h2])
     · rw[show (if y.name=s then some y.type else Option.none)=Option.none from if_neg e]at hv;cases hv
theorem Al.find:∀ {a:List Pa} {b:ja} {c:List Pa},Al a b c→(b.map (·.2)).Nodup→∀ {s:ByteArray} {t:Int},zW a s=some t→∃ s',xB b s=some s'∧zW c s'=some t
 | [],[],[],_,_,s,t,hv=>by rw[zW]at hv;cases hv
 | x :: r,q :: rs,y :: ys,h,hd,s,t,hv=>by
   obtain⟨h1,h2,h3,h4⟩:=h;rw[List.map_cons,List.nodup_cons]at hd;rw[zW]at hv;cases hr:zW r s with
   | some u=>
     rw[hr]at hv;injection hv with hv;subst hv;obtain⟨s',h5,h6⟩:=h4.find hd.2 hr;exact⟨s',by rw[xB,h5],by rw[zW,h6]⟩
   | none=>
     rw[hr]at hv;by_cases e:x.name=s
     · rw[show (if x.name=s then some x.type else Option.none)=some x.type from if_pos e]at hv
       injection hv with hv;refine⟨q.2,?_,?_⟩
       · rw[xB,h4.none hr,h1]
         exact if_pos e
       · rw[zW]
         cases hy:zW ys q.2 with
         | some u=>exact absurd (h4.mem hy) hd.1
         | none=>rw[←hv,←h3];exact if_pos h2
     · rw[show (if x.name=s then some x.type else Option.none)=Option.none from if_neg e]at hv;cases hv
theorem typEs_inl {p:Pr} {vars:List Pa}:∀ {l:List Ex} {x:Int},zj p vars l=.inl x→x≠0
 | [],x,h=>by rw[zj]at h;cases h
 | e :: r,x,h=>by
   rw[zj]at h;by_cases h0:(qI p vars e).2=0
   · rw[if_neg (by simpa using h0)]at h
     cases hr:zj p vars r with
     | inl y=>rw[hr]at h;injection h with h;subst h;exact typEs_inl hr
     | inr l=>rw[hr]at h;cases h
   · rw[if_pos h0]at h
     injection h with h;rw[←h];exact h0
theorem fnd_of {l:ja} {s t:ByteArray} (h:xB l s=some t):fnd l s=t:=by unfold fnd;rw[h];rfl
end Go.Proofs.YtfghofifjnbicaaGreatDoor
