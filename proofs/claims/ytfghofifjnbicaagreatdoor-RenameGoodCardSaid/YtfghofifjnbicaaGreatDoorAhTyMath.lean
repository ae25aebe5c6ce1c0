import Derived.Test.YtfghofifjnbicaaGreatDoorAhTokMath
set_option linter.unusedSimpArgs false
set_option linter.unusedVariables false
set_option maxRecDepth 100000
/- The types of expressions, ends of statements, and what is wrong with a program: no Go, no program. -/
namespace Go.Proofs.YtfghofifjnbicaaGreatDoor
open Lib (hid)
open Go.RowKit
def qN:List Fu→ByteArray→Option Nat
 | [],_=>none
 | f :: r,s=>if f.name=s then some 0 else (qN r s).map (·+1)
def qb:List Ar→ByteArray→Option Nat
 | [],_=>none
 | a :: r,s=>if a.name=s then some 0 else (qb r s).map (·+1)
def jY:Option Nat→Int
 | none=>-1
 | some k=>(k:Int)
def z5:List Pa→ByteArray→Option Int
 | [],_=>none
 | x :: r,s=>match z5 r s with
   | some t=>some t
   | none=>if x.name=s then some x.type else none
def xK (p:Pr) (s:ByteArray):Option Fu:=(qN p.funcs s).bind fun k=>p.funcs[k]?
def qj (op:Int):Int:=if op=18∨op=19∨op=22 then 2 else if op=16∨op=17 then 0 else 1
def x9 (op:Int):Int:=if op=18∨op=19∨op=22 then 2 else if op=16∨op=17 then 2 else if 12≤op∧op≤15 then 2 else 1
def jx (p:Pr) (vars:List Pa) (k:Int) (s:ByteArray):Bool:=
 if k=3 then (z5 vars s).isSome else if k=6 then (qb p.arrays s).isSome else if k=7 then (qN p.funcs s).isSome else true
def kd (p:Pr) (k:Int) (s:ByteArray) (n:Nat):Bool:=
 if k=7 then (match xK p s with | some f=>decide (n=f.params.length) | none=>true) else true
def qu (p:Pr) (vars:List Pa) (k op:Int) (s:ByteArray) (l:List Int):Int × Int:=
 if k=2 then (2,0)
 else if k=3 then ((z5 vars s).getD 0,0)
 else if k=7 then (match xK p s with | some f=>if l=f.params.map (·.type) then (f.type,0) else (0,51) | none=>(0,51))
 else if k=6 then (if l.headD 0=1 then (1,0) else (0,51))
 else if k=4∨k=5 then (if l.all (fun t=>decide ((qj op=0∨t=qj op)∧t=l.headD 0)) then (x9 op,0) else (0,51))
 else (1,0)
mutual
def qI (p:Pr) (vars:List Pa):Ex→Int × Int
 | .mk k op _ name args=>
   if jx p vars k name=false then (0,50)
   else if kd p k name args.length=false then (0,51)
   else match zi p vars args with
    | .inl e=>(0,e)
    | .inr l=>qu p vars k op name l
def zi (p:Pr) (vars:List Pa):List Ex→Int ⊕ List Int
 | []=>.inr []
 | e :: r=>
   if (qI p vars e).2≠0 then .inl (qI p vars e).2
   else match zi p vars r with
    | .inl x=>.inl x
    | .inr l=>.inr ((qI p vars e).1 :: l)
end
def trueE:List Ex→Bool
 | .mk k _ n _ _ :: _=>decide (k=2) && decide (n=1)
 | []=>false
mutual
def brkS:St→Bool
 | .mk k _ _ _ thn els=>decide (k=6) || (decide (k=4) && (jK thn || jK els))
def jK:List St→Bool
 | []=>false
 | s :: r=>brkS s || jK r
end
mutual
def endS:St→Bool
 | .mk k _ _ args thn els=>decide (k=8) || (decide (k=4) && (jL thn && jL els)) || (decide (k=5) && (trueE args && !jK thn))
def jL:List St→Bool
 | []=>false
 | s :: r=>endS s || jL r
end
def q7 (p:Pr) (vars:List Pa) (e:Ex) (t:Int):Int:=if (qI p vars e).2=0 then (if (qI p vars e).1=t then 0 else 51) else (qI p vars e).2
def xL:Ex:=.mk 1 0 0 ⟨#[]⟩ []
def qh (p:Pr) (ft:Int) (k ty:Int) (name:ByteArray) (args:List Ex) (vars:List Pa) (frm:Nat) (loop:Bool):Int:=
 if k=1 then (if q7 p vars (args.getD 0 xL) ty=0 then (if (z5 (vars.drop frm) name).isSome then 50 else 0) else q7 p vars (args.getD 0 xL) ty)
 else if k=2 then (match z5 vars name with | none=>50 | some t=>q7 p vars (args.getD 0 xL) t)
 else if k=3 then (if (qb p.arrays name).isSome then (if q7 p vars (args.getD 0 xL) 1=0 then q7 p vars (args.getD 1 xL) 1 else q7 p vars (args.getD 0 xL) 1) else 50)
 else if k=4∨k=5 then q7 p vars (args.getD 0 xL) 2
 else if k=8 then q7 p vars (args.getD 0 xL) ft
 else if k=9 then q7 p vars (args.getD 0 xL) 1
 else if k=10 then (qI p vars (args.getD 0 xL)).2
 else if loop then 0 else 53
def jp (k ty:Int) (name:ByteArray) (vars:List Pa):List Pa:=if k=1 then vars++[⟨name,ty⟩] else vars
def letS:St→List Pa→List Pa
 | .mk k ty name _ _ _,vars=>jp k ty name vars
mutual
def chkS (p:Pr) (ft:Int):St→List Pa→Nat→Bool→Nat→Int × Nat
 | .mk k ty name args thn els,vars,frm,loop,n=>
   if qh p ft k ty name args vars frm loop≠0 then (qh p ft k ty name args vars frm loop,n)
   else if (zd p ft thn (jp k ty name vars) (jp k ty name vars).length (loop || decide (k=5)) (n+1)).1≠0 then zd p ft thn (jp k ty name vars) (jp k ty name vars).length (loop || decide (k=5)) (n+1)
   else zd p ft els (jp k ty name vars) (jp k ty name vars).length loop (zd p ft thn (jp k ty name vars) (jp k ty name vars).length (loop || decide (k=5)) (n+1)).2
def zd (p:Pr) (ft:Int):List St→List Pa→Nat→Bool→Nat→Int × Nat
 | [],_,_,_,n=>(0,n)
 | s :: r,vars,frm,loop,n=>
   if (chkS p ft s vars frm loop n).1≠0 then chkS p ft s vars frm loop n
   else zd p ft r (letS s vars) frm loop (chkS p ft s vars frm loop n).2
end
def ub:List Pa→Bool
 | []=>false
 | x :: r=>(z5 r x.name).isSome || ub r
def xM (p:Pr) (f:Fu):Int × Nat:=
 if ub f.params then (50,0)
 else if (zd p f.type f.body f.params f.params.length false 0).1≠0 then zd p f.type f.body f.params f.params.length false 0
 else if jL f.body then (0,0) else (52,(zd p f.type f.body f.params f.params.length false 0).2)
def yM (p:Pr):List Fu→Nat→Int × Nat × Nat
 | [],_=>(0,0,0)
 | f :: r,i=>if (xM p f).1≠0 then ((xM p f).1,i,(xM p f).2) else yM p r (i+1)
def vu:List Fu→Bool
 | []=>false
 | f :: r=>(qN r f.name).isSome || vu r
def yy (p:Pr):List Ar→Bool
 | []=>false
 | a :: r=>(qb r a.name).isSome || (qN p.funcs a.name).isSome || yy p r
def xH (p:Pr):Bool:=match xK p ⟨#[109,97,105,110]⟩ with | some f=>decide (f.type=1) && decide (f.params.length=0) | none=>false
def uJ (p:Pr):Int × Nat × Nat:=
 if prOK p=false then (1,0,0)
 else if yy p p.arrays || vu p.funcs || !xH p then (50,0,0)
 else yM p p.funcs 0
inductive PR (α:Type) where
 | ok (a:α) (r:List Tok)
 | bad (r:List Tok)
 | deep (r:List Tok)
 | out
def PR.bind {α β:Type} (x:PR α) (f:α→List Tok→PR β):PR β:=
 match x with
 | .ok a r=>f a r
 | .bad r=>.bad r
 | .deep r=>.deep r
 | .out=>.out
def z6 (s:List UInt8) (l:List Tok):Bool:=match l with | t :: _=>decide (t.kind=2) && t.text == s | []=>false
def yn (l:List Tok):Int:=match l with | t :: _=>t.kind | []=>3
def hdT (l:List Tok):List UInt8:=match l with | t :: _=>t.text | []=>[]
def zL (s:List UInt8) (l:List Tok):PR Unit:=if z6 s l then .ok () l.tail else .bad l
def qP (k:Int) (l:List Tok):PR ByteArray:=if yn l=k then .ok ⟨(hdT l).toArray⟩ l.tail else .bad l
def sgT (op:Int):List UInt8:=(kG op).data.toList
def xa (lev:Int) (l:List Tok):List Int→Int
 | []=>0
 | op :: r=>if kS op=lev∧z6 (sgT op) l=true then op else xa lev l r
def twos:List Int:=[1,2,3,4,5,6,7,8,9,10,11,12,13,14,15,16,17,18,19]
def ones:List Int:=[20,21,22,23,24,25,26,27,28]
def opAt (lev:Int) (l:List Tok):Int:=xa lev l twos
def yC (l:List Tok):List Int→Int
 | []=>0
 | op :: r=>if z6 (sgT op) l=true then op else yC l r
def unAt (l:List Tok):Int:=yC l ones
def bE:ByteArray:=⟨#[]⟩
def uD:List UInt8:=[116,114,117,101]
def y8:List UInt8:=[102,97,108,115,101]
def sRead:List UInt8:=[114,101,97,100]
def uK:List UInt8:=[105,110,116]
def kH:List UInt8:=[98,111,111,108]
def sIf:List UInt8:=[105,102]
def sElse:List UInt8:=[101,108,115,101]
def vB:List UInt8:=[119,104,105,108,101]
def uL:List UInt8:=[98,114,101,97,107]
def sCont:List UInt8:=[99,111,110,116,105,110,117,101]
def sRet:List UInt8:=[114,101,116,117,114,110]
def sPrint:List UInt8:=[112,114,105,110,116]
mutual
def pE:Nat→Int→Int→List Tok→PR Ex
 | 0,_,_,_=>.out
 | n+1,lev,d,l=>if 10<lev then pU n d l else (pE n (lev+1) d l).bind fun a r=>pL n lev d a r
def pL:Nat→Int→Int→Ex→List Tok→PR Ex
 | 0,_,_,_,_=>.out
 | n+1,lev,d,a,l=>if opAt lev l=0 then .ok a l else (pE n (lev+1) d l.tail).bind fun b r=>pL n lev d (.mk 5 (opAt lev l) 0 bE [a,b]) r
def pU:Nat→Int→List Tok→PR Ex
 | 0,_,_=>.out
 | n+1,d,l=>
   if 100<d then .deep l
   else if unAt l=0 then pP n d l
   else if 23≤unAt l then (zL [40] l.tail).bind fun _ r=>(pE n 1 (d+1) r).bind fun e r=>(zL [41] r).bind fun _ r=>.ok (.mk 4 (unAt l) 0 bE [e]) r
   else (pU n (d+1) l.tail).bind fun e r=>.ok (.mk 4 (unAt l) 0 bE [e]) r
def pP:Nat→Int→List Tok→PR Ex
 | 0,_,_=>.out
 | n+1,d,l=>
   if z6 [40] l=true then (pE n 1 (d+1) l.tail).bind fun e r=>(zL [41] r).bind fun _ r=>.ok e r
   else if z6 uD l=true then .ok (.mk 2 0 1 bE []) l.tail
   else if z6 y8 l=true then .ok (.mk 2 0 0 bE []) l.tail
   else if z6 sRead l=true then (zL [40] l.tail).bind fun _ r=>(zL [41] r).bind fun _ r=>.ok (.mk 8 0 0 bE []) r
   else if yn l=0 then .ok (.mk 1 0 (jd 0 (hdT l)) bE []) l.tail
   else (qP 1 l).bind fun s r=>pN n d s r
def pN:Nat→Int→ByteArray→List Tok→PR Ex
 | 0,_,_,_=>.out
 | n+1,d,s,l=>
   if z6 [40] l=true then (pA n (d+1) l.tail).bind fun es r=>.ok (.mk 7 0 0 s es) r
   else if z6 [91] l=true then (pE n 1 (d+1) l.tail).bind fun e r=>(zL [93] r).bind fun _ r=>.ok (.mk 6 0 0 s [e]) r
   else .ok (.mk 3 0 0 s []) l
def pA:Nat→Int→List Tok→PR (List Ex)
 | 0,_,_=>.out
 | n+1,d,l=>if z6 [41] l=true then .ok [] l.tail else pAL n d [] l
def pAL:Nat→Int→List Ex→List Tok→PR (List Ex)
 | 0,_,_,_=>.out
 | n+1,d,acc,l=>(pE n 1 d l).bind fun e r=>if z6 [44] r=true then pAL n d (acc++[e]) r.tail else (zL [41] r).bind fun _ r=>.ok (acc++[e]) r
end
def pI (n:Nat) (l:List Tok):PR Ex:=(zL [40] l).bind fun _ r=>(pE n 1 1 r).bind fun e r=>(zL [41] r).bind fun _ r=>.ok e r
def uM (l:List Tok):PR Int:=if z6 uK l=true then .ok 1 l.tail else (zL kH l).bind fun _ r=>.ok 2 r
def yN {α:Type} (x:PR α):PR α:=x.bind fun a r=>(zL [59] r).bind fun _ r=>.ok a r
def pNm (n:Nat) (l:List Tok):PR St:=(qP 1 l).bind fun s r=>
 if z6 [40] r=true then (pA n 2 r.tail).bind fun es r=>.ok (.mk 10 0 bE [.mk 7 0 0 s es] [] []) r
 else if z6 [91] r=true then (pE n 1 1 r.tail).bind fun e r=>(zL [93] r).bind fun _ r=>(zL [61] r).bind fun _ r=>(pE n 1 1 r).bind fun f r=>.ok (.mk 3 0 s [e,f] [] []) r
 else (zL [61] r).bind fun _ r=>(pE n 1 1 r).bind fun e r=>.ok (.mk 2 0 s [e] [] []) r
mutual
def pS:Nat→Int→List Tok→PR St
 | 0,_,_=>.out
 | n+1,d,l=>
   if 100<d then .deep l
   else if z6 uK l=true∨z6 kH l=true then yN ((uM l).bind fun t r=>(qP 1 r).bind fun s r=>(zL [61] r).bind fun _ r=>(pE n 1 1 r).bind fun e r=>.ok (.mk 1 t s [e] [] []) r)
   else if z6 sIf l=true then (pI n l.tail).bind fun e r=>(pB n (d+1) r).bind fun t r=>pEl n d e t r
   else if z6 vB l=true then (pI n l.tail).bind fun e r=>(pB n (d+1) r).bind fun t r=>.ok (.mk 5 0 bE [e] t []) r
   else if z6 uL l=true then yN (.ok (.mk 6 0 bE [] [] []) l.tail)
   else if z6 sCont l=true then yN (.ok (.mk 7 0 bE [] [] []) l.tail)
   else if z6 sRet l=true then yN ((pE n 1 1 l.tail).bind fun e r=>.ok (.mk 8 0 bE [e] [] []) r)
   else if z6 sPrint l=true then yN ((pI n l.tail).bind fun e r=>.ok (.mk 9 0 bE [e] [] []) r)
   else yN (pNm n l)
def pEl:Nat→Int→Ex→List St→List Tok→PR St
 | 0,_,_,_,_=>.out
 | n+1,d,e,t,l=>if z6 sElse l=true then (pB n (d+1) l.tail).bind fun u r=>.ok (.mk 4 0 bE [e] t u) r else .ok (.mk 4 0 bE [e] t []) l
def pB:Nat→Int→List Tok→PR (List St)
 | 0,_,_=>.out
 | n+1,d,l=>(zL [123] l).bind fun _ r=>pBL n d [] r
def pBL:Nat→Int→List St→List Tok→PR (List St)
 | 0,_,_,_=>.out
 | n+1,d,acc,l=>if z6 [125] l=true then .ok acc l.tail else (pS n d l).bind fun s r=>pBL n d (acc++[s]) r
end
def pPL:Nat→List Pa→List Tok→PR (List Pa)
 | 0,_,_=>.out
 | n+1,acc,l=>(uM l).bind fun t r=>(qP 1 r).bind fun s r=>if z6 [44] r=true then pPL n (acc++[⟨s,t⟩]) r.tail else (zL [41] r).bind fun _ r=>.ok (acc++[⟨s,t⟩]) r
def pPs (n:Nat) (l:List Tok):PR (List Pa):=(zL [40] l).bind fun _ r=>if z6 [41] r=true then .ok [] r.tail else pPL n [] r
def pFn (n:Nat) (t:Int) (s:ByteArray) (l:List Tok):PR Fu:=(pPs n l).bind fun ps r=>(pB n 1 r).bind fun b r=>.ok ⟨s,t,ps,b⟩ r
def pArr (s:ByteArray) (l:List Tok):PR Ar:=(qP 0 l).bind fun t r=>(zL [93] r).bind fun _ r=>(zL [59] r).bind fun _ r=>.ok ⟨s,jd 0 t.data.toList⟩ r
def uY:Nat→Pr→List Tok→PR Pr
 | 0,_,_=>.out
 | n+1,p,l=>if yn l=3 then .ok p l else (uM l).bind fun t r=>(qP 1 r).bind fun s r=>
    if t=1∧p.funcs=[]∧z6 [91] r=true then (pArr s r.tail).bind fun a r=>uY n ⟨p.arrays++[a],p.funcs⟩ r
    else (pFn n t s r).bind fun f r=>uY n ⟨p.arrays,p.funcs++[f]⟩ r
def ze (l:List Tok):Prop:=∃ i e,l=i++[e]∧e.kind=3∧∀ t ∈ i,t.kind≠3
theorem ze.ne {l:List Tok} (h:ze l):l≠[]:=by obtain⟨i,e,rfl,_⟩:=h;simp
theorem ze.pos {l:List Tok} (h:ze l):0<l.length:=List.length_pos_iff.2 h.ne
theorem ze.tail {l:List Tok} (h:ze l) (hk:yn l≠3):ze l.tail:=by
 obtain⟨i,e,rfl,he,hi⟩:=h;cases i with
 | nil=>exact absurd he hk
 | cons a i=>exact⟨i,e,rfl,he,fun t ht=>hi t (List.mem_cons_of_mem _ ht)⟩
theorem vC {s:List UInt8} {l:List Tok} (h:z6 s l=true):yn l=2∧hdT l=s:=by
 cases l with
 | nil=>cases h
 | cons t r=>
   simp only[z6,Bool.and_eq_true,decide_eq_true_eq]at h;exact⟨h.1,by simpa[hdT] using h.2⟩
theorem ze.sign {l:List Tok} (h:ze l) {s:List UInt8} (hs:z6 s l=true):ze l.tail:=h.tail (by rw[(vC hs).1];decide)
theorem jB {l:List Tok} (h:ze l):l.tail.length+1=l.length:=by
 have:=h.pos;rw[List.length_tail];omega
theorem xo {lev:Int} {l:List Tok}:∀ {ops:List Int},xa lev l ops≠0→∃ s,z6 s l=true
 | [],h=>absurd rfl h
 | op :: r,h=>by
   rw[xa]at h;split at h
   · rename_i hc
     exact⟨_,hc.2⟩
   · exact xo h
theorem vD {l:List Tok}:∀ {ops:List Int},yC l ops≠0→∃ s,z6 s l=true
 | [],h=>absurd rfl h
 | op :: r,h=>by
   rw[yC]at h;split at h
   · rename_i hc
     exact⟨_,hc⟩
   · exact vD h
def zH (k:Nat) (l r:List Tok):Prop:=r <:+l∧ze r∧r.length+k≤l.length
def zY {α:Type} (k:Nat) (l:List Tok):PR α→Prop
 | .ok _ r=>zH k l r
 | .bad r=>zH 0 l r
 | .deep r=>zH 0 l r
 | .out=>True
theorem zH.self {l:List Tok} (h:ze l):zH 0 l l:=⟨List.suffix_refl _,h,Nat.le_refl _⟩
theorem zH.tail {l:List Tok} (h:ze l) (hk:yn l≠3):zH 1 l l.tail:=⟨List.tail_suffix l,h.tail hk,by rw[jB h];exact Nat.le_refl _⟩
theorem zH.sign {l:List Tok} (h:ze l) {s:List UInt8} (hs:z6 s l=true):zH 1 l l.tail:=zH.tail h (by rw[(vC hs).1];decide)
theorem zH.trans {k m:Nat} {a b c:List Tok} (h:zH k a b) (g:zH m b c):zH (k+m) a c:=⟨g.1.trans h.1,g.2.1,by have:=h.2.2;have:=g.2.2;omega⟩
theorem zH.mono {k m:Nat} {a b:List Tok} (h:zH k a b) (hm:m≤k):zH m a b:=⟨h.1,h.2.1,by have:=h.2.2;omega⟩
theorem zY.mono {α:Type} {k m:Nat} {l:List Tok} {x:PR α} (h:zY k l x) (hm:m≤k):zY m l x:=by
 cases x with
 | ok a r=>exact zH.mono (show zH k l r from h) hm
 | bad r=>exact h
 | deep r=>exact h
 | out=>trivial
theorem zY.from {α:Type} {k m n:Nat} {l r:List Tok} {x:PR α} (h:zH m l r) (g:zY k r x) (hn:n≤m+k):zY n l x:=by
 cases x with
 | ok a t=>exact(h.trans (show zH k r t from g)).mono hn
 | bad t=>exact(h.trans (show zH 0 r t from g)).mono (Nat.zero_le _)
 | deep t=>exact(h.trans (show zH 0 r t from g)).mono (Nat.zero_le _)
 | out=>trivial
theorem zY.bind {α β:Type} {k m n:Nat} {l:List Tok} {x:PR α} {f:α→List Tok→PR β} (h:zY k l x) (g:∀ a r,x=.ok a r→ze r→zY m r (f a r)) (hn:n≤k+m):zY n l (x.bind f):=by
 cases x with
 | ok a r=>exact zY.from (show zH k l r from h) (g a r rfl (show zH k l r from h).2.1) hn
 | bad r=>exact h
 | deep r=>exact h
 | out=>trivial
theorem zY.self {α:Type} {l:List Tok} (h:ze l) (a:α):zY 0 l (.ok a l):=zH.self h
theorem zJ {l:List Tok} (h:ze l) (s:List UInt8):zY 1 l (zL s l):=by
 unfold zL;split
 · rename_i hs
   exact zH.sign h hs
 · exact zH.self h
theorem qX {l:List Tok} (h:ze l) (k:Int) (hk:k≠3):zY 1 l (qP k l):=by
 unfold qP;split
 · rename_i hs
   exact zH.tail h (by rw[hs];exact hk)
 · exact zH.self h
theorem fits_expr (n:Nat):(∀ lev d l,ze l→zY 1 l (pE n lev d l))∧(∀ lev d a l,ze l→zY 0 l (pL n lev d a l))∧(∀ d l,ze l→zY 1 l (pU n d l))∧(∀ d l,ze l→zY 1 l (pP n d l))∧
 (∀ d s l,ze l→zY 0 l (pN n d s l))∧(∀ d l,ze l→zY 1 l (pA n d l))∧(∀ d acc l,ze l→zY 1 l (pAL n d acc l)):=by
 induction n with
 | zero=>exact⟨fun _ _ _ _=>by rw[pE];trivial,fun _ _ _ _ _=>by rw[pL];trivial,fun _ _ _=>by rw[pU];trivial,fun _ _ _=>by rw[pP];trivial,fun _ _ _ _=>by rw[pN];trivial,fun _ _ _=>by rw[pA];trivial,fun _ _ _ _=>by rw[pAL];trivial⟩
 | succ n ih=>
   obtain⟨iE,iL,iU,iP,iN,iA,iAL⟩:=ih;refine⟨fun lev d l h=>?_,fun lev d a l h=>?_,fun d l h=>?_,fun d l h=>?_,fun d s l h=>?_,fun d l h=>?_,fun d acc l h=>?_⟩
   · rw[pE]
     split
     · exact iU d l h
     · exact(iE _ _ _ h).bind (fun a r _ hr=>iL _ _ _ _ hr) (by omega)
   · rw[pL]
     split
     · exact zY.self h _
     · rename_i ho
       obtain⟨s,hs⟩:=xo ho;exact zY.from (zH.sign h hs) ((iE _ _ _ (h.sign hs)).bind (n:=1) (fun a r _ hr=>iL _ _ _ _ hr) (by omega)) (by omega)
   · rw[pU]
     split
     · exact zH.self h
     · split
       · exact iP d l h
       · rename_i ho
         obtain⟨s,hs⟩:=vD ho;split
         · exact zY.from (zH.sign h hs) ((zJ (h.sign hs) _).bind (n:=0) (fun _ r _ hr=>(iE _ _ _ hr).bind (n:=0) (fun e r _ hr=>(zJ hr _).bind (n:=0) (fun _ r _ hr=>zY.self hr _) (by omega)) (by omega)) (by omega)) (by omega)
         · exact zY.from (zH.sign h hs) ((iU _ _ (h.sign hs)).bind (n:=0) (fun _ r _ hr=>zY.self hr _) (by omega)) (by omega)
   · rw[pP]
     split
     · rename_i hs
       exact zY.from (zH.sign h hs) ((iE _ _ _ (h.sign hs)).bind (n:=0) (fun e r _ hr=>(zJ hr _).bind (n:=0) (fun _ r _ hr=>zY.self hr _) (by omega)) (by omega)) (by omega)
     · split
       · rename_i hs
         exact zH.sign h hs
       · split
         · rename_i hs
           exact zH.sign h hs
         · split
           · rename_i hs
             exact zY.from (zH.sign h hs) ((zJ (h.sign hs) _).bind (n:=0) (fun _ r _ hr=>(zJ hr _).bind (n:=0) (fun _ r _ hr=>zY.self hr _) (by omega)) (by omega)) (by omega)
           · split
             · rename_i hk
               exact zH.tail h (by rw[hk];decide)
             · exact(qX h 1 (by decide)).bind (fun s r _ hr=>iN _ _ _ hr) (by omega)
   · rw[pN]
     split
     · rename_i hs
       exact zY.from (zH.sign h hs) ((iA _ _ (h.sign hs)).bind (n:=0) (fun _ r _ hr=>zY.self hr _) (by omega)) (by omega)
     · split
       · rename_i hs
         exact zY.from (zH.sign h hs) ((iE _ _ _ (h.sign hs)).bind (n:=0) (fun e r _ hr=>(zJ hr _).bind (n:=0) (fun _ r _ hr=>zY.self hr _) (by omega)) (by omega)) (by omega)
       · exact zY.self h _
   · rw[pA]
     split
     · rename_i hs
       exact zH.sign h hs
     · exact iAL _ _ _ h
   · rw[pAL]
     refine(iE _ _ _ h).bind (m:=0) (fun e r _ hr=>?_) (by omega);split
     · rename_i hs
       exact zY.from (zH.sign hr hs) (iAL _ _ _ (hr.sign hs)) (by omega)
     · exact(zJ hr _).bind (n:=0) (fun _ r _ hr=>zY.self hr _) (by omega)
theorem qQ {n:Nat} {lev d:Int} {l:List Tok} (h:ze l):zY 1 l (pE n lev d l):=(fits_expr n).1 lev d l h
theorem pA_fits {n:Nat} {d:Int} {l:List Tok} (h:ze l):zY 1 l (pA n d l):=(fits_expr n).2.2.2.2.2.1 d l h
theorem xN {n:Nat} {l:List Tok} (h:ze l):zY 1 l (pI n l):=by
 unfold pI;exact(zJ h _).bind (m:=0) (fun _ r _ hr=>(qQ hr).bind (n:=0) (fun e r _ hr=>(zJ hr _).bind (n:=0) (fun _ r _ hr=>zY.self hr _) (by omega)) (by omega)) (by omega)
theorem kT {l:List Tok} (h:ze l):zY 1 l (uM l):=by
 unfold uM;split
 · rename_i hs
   exact zH.sign h hs
 · exact(zJ h _).bind (m:=0) (fun _ r _ hr=>zY.self hr _) (by omega)
theorem ke {α:Type} {k:Nat} {l:List Tok} {x:PR α} (h:zY k l x):zY k l (yN x):=by
 unfold yN;exact h.bind (m:=0) (fun _ r _ hr=>(zJ hr _).bind (n:=0) (fun _ r _ hr=>zY.self hr _) (by omega)) (by omega)
theorem pNm_fits {n:Nat} {l:List Tok} (h:ze l):zY 1 l (pNm n l):=by
 unfold pNm;refine(qX h 1 (by decide)).bind (m:=0) (fun s r _ hr=>?_) (by omega);split
 · rename_i hs
   exact zY.from (zH.sign hr hs) ((pA_fits (hr.sign hs)).bind (n:=0) (fun _ r _ hr=>zY.self hr _) (by omega)) (by omega)
 · split
   · rename_i hs
     exact zY.from (zH.sign hr hs) ((qQ (hr.sign hs)).bind (n:=0) (fun e r _ hr=>(zJ hr _).bind (n:=0) (fun _ r _ hr=>(zJ hr _).bind (n:=0) (fun _ r _ hr=>(qQ hr).bind (n:=0) (fun _ r _ hr=>zY.self hr _) (by omega)) (by omega)) (by omega)) (by omega)) (by omega)
   · exact(zJ hr _).bind (n:=0) (fun _ r _ hr=>(qQ hr).bind (n:=0) (fun _ r _ hr=>zY.self hr _) (by omega)) (by omega)
theorem fits_stmt (n:Nat):(∀ d l,ze l→zY 1 l (pS n d l))∧(∀ d e t l,ze l→zY 0 l (pEl n d e t l))∧(∀ d l,ze l→zY 1 l (pB n d l))∧(∀ d acc l,ze l→zY 1 l (pBL n d acc l)):=by
 induction n with
 | zero=>exact⟨fun _ _ _=>by rw[pS];trivial,fun _ _ _ _ _=>by rw[pEl];trivial,fun _ _ _=>by rw[pB];trivial,fun _ _ _ _=>by rw[pBL];trivial⟩
 | succ n ih=>
   obtain⟨iS,iEl,iB,iBL⟩:=ih;refine⟨fun d l h=>?_,fun d e t l h=>?_,fun d l h=>?_,fun d acc l h=>?_⟩
   · rw[pS]
     split
     · exact zH.self h
     · split
       · refine ke ((kT h).bind (m:=0) (fun t r _ hr=>(qX hr 1 (by decide)).bind (n:=0) (fun s r _ hr=>(zJ hr _).bind (n:=0) (fun _ r _ hr=>(qQ hr).bind (n:=0) (fun _ r _ hr=>zY.self hr _) (by omega)) (by omega)) (by omega)) (by omega))
       · split
         · rename_i hs
           exact zY.from (zH.sign h hs) ((xN (h.sign hs)).bind (n:=0) (fun e r _ hr=>(iB _ _ hr).bind (n:=0) (fun t r _ hr=>iEl _ _ _ _ hr) (by omega)) (by omega)) (by omega)
         · split
           · rename_i hs
             exact zY.from (zH.sign h hs) ((xN (h.sign hs)).bind (n:=0) (fun e r _ hr=>(iB _ _ hr).bind (n:=0) (fun t r _ hr=>zY.self hr _) (by omega)) (by omega)) (by omega)
           · split
             · rename_i hs
               exact ke (show zH 1 l l.tail from zH.sign h hs)
             · split
               · rename_i hs
                 exact ke (show zH 1 l l.tail from zH.sign h hs)
               · split
                 · rename_i hs
                   exact ke (zY.from (zH.sign h hs) ((qQ (h.sign hs)).bind (n:=0) (fun _ r _ hr=>zY.self hr _) (by omega)) (by omega))
                 · split
                   · rename_i hs
                     exact ke (zY.from (zH.sign h hs) ((xN (h.sign hs)).bind (n:=0) (fun _ r _ hr=>zY.self hr _) (by omega)) (by omega))
                   · exact ke (pNm_fits h)
   · rw[pEl]
     split
     · rename_i hs
       exact zY.from (zH.sign h hs) ((iB _ _ (h.sign hs)).bind (n:=0) (fun _ r _ hr=>zY.self hr _) (by omega)) (by omega)
     · exact zY.self h _
   · rw[pB]
     exact(zJ h _).bind (m:=0) (fun _ r _ hr=>(iBL _ _ _ hr).mono (by omega)) (by omega)
   · rw[pBL]
     split
     · rename_i hs
       exact zH.sign h hs
     · exact(iS _ _ h).bind (m:=0) (fun _ r _ hr=>(iBL _ _ _ hr).mono (by omega)) (by omega)
theorem pS_fits {n:Nat} {d:Int} {l:List Tok} (h:ze l):zY 1 l (pS n d l):=(fits_stmt n).1 d l h
theorem vY {n:Nat} {d:Int} {l:List Tok} (h:ze l):zY 1 l (pB n d l):=(fits_stmt n).2.2.1 d l h
theorem pPL_fits:∀ (n:Nat) (acc:List Pa) (l:List Tok),ze l→zY 1 l (pPL n acc l)
 | 0,_,_,_=>by rw[pPL];trivial
 | n+1,acc,l,h=>by
   rw[pPL];refine(kT h).bind (m:=0) (fun t r _ hr=>(qX hr 1 (by decide)).bind (m:=0) (fun s r _ hr=>?_) (by omega)) (by omega);split
   · rename_i hs
     exact zY.from (zH.sign hr hs) (pPL_fits n _ _ (hr.sign hs)) (by omega)
   · exact(zJ hr _).bind (n:=0) (fun _ r _ hr=>zY.self hr _) (by omega)
theorem pPs_fits {n:Nat} {l:List Tok} (h:ze l):zY 1 l (pPs n l):=by
 unfold pPs;refine(zJ h _).bind (m:=0) (fun _ r _ hr=>?_) (by omega);split
 · rename_i hs
   exact(show zH 1 r r.tail from zH.sign hr hs).mono (by omega)
 · exact(pPL_fits n _ _ hr).mono (by omega)
theorem vE {n:Nat} {t:Int} {s:ByteArray} {l:List Tok} (h:ze l):zY 1 l (pFn n t s l):=by
 unfold pFn;exact(pPs_fits h).bind (m:=0) (fun _ r _ hr=>(vY hr).bind (n:=0) (fun _ r _ hr=>zY.self hr _) (by omega)) (by omega)
theorem pArr_fits {s:ByteArray} {l:List Tok} (h:ze l):zY 1 l (pArr s l):=by
 unfold pArr;exact(qX h 0 (by decide)).bind (m:=0) (fun _ r _ hr=>(zJ hr _).bind (n:=0) (fun _ r _ hr=>(zJ hr _).bind (n:=0) (fun _ r _ hr=>zY.self hr _) (by omega)) (by omega)) (by omega)
end Go.Proofs.YtfghofifjnbicaaGreatDoor
