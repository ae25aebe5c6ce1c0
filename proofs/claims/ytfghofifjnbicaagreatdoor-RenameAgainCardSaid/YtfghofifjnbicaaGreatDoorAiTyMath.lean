import Derived.Test.YtfghofifjnbicaaGreatDoorAiTokMath
set_option linter.unusedSimpArgs false
set_option linter.unusedVariables false
set_option maxRecDepth 100000
/- The types of expressions, ends of statements, and what is wrong with a program: no Go, no program. -/
namespace Go.Proofs.YtfghofifjnbicaaGreatDoor
open Lib (hid)
open Go.RowKit
def zy:List Fu→ByteArray→Option Nat
 | [],_=>none
 | f :: r,s=>if f.name=s then some 0 else (zy r s).map (·+1)
def qV:List Ar→ByteArray→Option Nat
 | [],_=>none
 | a :: r,s=>if a.name=s then some 0 else (qV r s).map (·+1)
def j9:Option Nat→Int
 | none=>-1
 | some k=>(k:Int)
def zQ:List Pa→ByteArray→Option Int
 | [],_=>none
 | x :: r,s=>match zQ r s with
   | some t=>some t
   | none=>if x.name=s then some x.type else none
def kd (p:Pr) (s:ByteArray):Option Fu:=(zy p.funcs s).bind fun k=>p.funcs[k]?
def qd (op:Int):Int:=if op=18∨op=19∨op=22 then 2 else if op=16∨op=17 then 0 else 1
def xk (op:Int):Int:=if op=18∨op=19∨op=22 then 2 else if op=16∨op=17 then 2 else if 12≤op∧op≤15 then 2 else 1
def ja (p:Pr) (vars:List Pa) (k:Int) (s:ByteArray):Bool:=
 if k=3 then (zQ vars s).isSome else if k=6 then (qV p.arrays s).isSome else if k=7 then (zy p.funcs s).isSome else true
def jz (p:Pr) (k:Int) (s:ByteArray) (n:Nat):Bool:=
 if k=7 then (match kd p s with | some f=>decide (n=f.params.length) | none=>true) else true
def qe (p:Pr) (vars:List Pa) (k op:Int) (s:ByteArray) (l:List Int):Int × Int:=
 if k=2 then (2,0)
 else if k=3 then ((zQ vars s).getD 0,0)
 else if k=7 then (match kd p s with | some f=>if l=f.params.map (·.type) then (f.type,0) else (0,51) | none=>(0,51))
 else if k=6 then (if l.headD 0=1 then (1,0) else (0,51))
 else if k=4∨k=5 then (if l.all (fun t=>decide ((qd op=0∨t=qd op)∧t=l.headD 0)) then (xk op,0) else (0,51))
 else (1,0)
mutual
def zr (p:Pr) (vars:List Pa):Ex→Int × Int
 | .mk k op _ name args=>
   if ja p vars k name=false then (0,50)
   else if jz p k name args.length=false then (0,51)
   else match zb p vars args with
    | .inl e=>(0,e)
    | .inr l=>qe p vars k op name l
def zb (p:Pr) (vars:List Pa):List Ex→Int ⊕ List Int
 | []=>.inr []
 | e :: r=>
   if (zr p vars e).2≠0 then .inl (zr p vars e).2
   else match zb p vars r with
    | .inl x=>.inl x
    | .inr l=>.inr ((zr p vars e).1 :: l)
end
def trueE:List Ex→Bool
 | .mk k _ n _ _ :: _=>decide (k=2) && decide (n=1)
 | []=>false
mutual
def brkS:St→Bool
 | .mk k _ _ _ thn els=>decide (k=6) || (decide (k=4) && (qh thn || qh els))
def qh:List St→Bool
 | []=>false
 | s :: r=>brkS s || qh r
end
mutual
def endS:St→Bool
 | .mk k _ _ args thn els=>decide (k=8) || (decide (k=4) && (qi thn && qi els)) || (decide (k=5) && (trueE args && !qh thn))
def qi:List St→Bool
 | []=>false
 | s :: r=>endS s || qi r
end
def qG (p:Pr) (vars:List Pa) (e:Ex) (t:Int):Int:=if (zr p vars e).2=0 then (if (zr p vars e).1=t then 0 else 51) else (zr p vars e).2
def kf:Ex:=.mk 1 0 0 ⟨#[]⟩ []
def qQ (p:Pr) (ft:Int) (k ty:Int) (name:ByteArray) (args:List Ex) (vars:List Pa) (frm:Nat) (loop:Bool):Int:=
 if k=1 then (if qG p vars (args.getD 0 kf) ty=0 then (if (zQ (vars.drop frm) name).isSome then 50 else 0) else qG p vars (args.getD 0 kf) ty)
 else if k=2 then (match zQ vars name with | none=>50 | some t=>qG p vars (args.getD 0 kf) t)
 else if k=3 then (if (qV p.arrays name).isSome then (if qG p vars (args.getD 0 kf) 1=0 then qG p vars (args.getD 1 kf) 1 else qG p vars (args.getD 0 kf) 1) else 50)
 else if k=4∨k=5 then qG p vars (args.getD 0 kf) 2
 else if k=8 then qG p vars (args.getD 0 kf) ft
 else if k=9 then qG p vars (args.getD 0 kf) 1
 else if k=10 then (zr p vars (args.getD 0 kf)).2
 else if loop then 0 else 53
def jT (k ty:Int) (name:ByteArray) (vars:List Pa):List Pa:=if k=1 then vars++[⟨name,ty⟩] else vars
def letS:St→List Pa→List Pa
 | .mk k ty name _ _ _,vars=>jT k ty name vars
mutual
def vL (p:Pr) (ft:Int):St→List Pa→Nat→Bool→Nat→Int × Nat
 | .mk k ty name args thn els,vars,frm,loop,n=>
   if qQ p ft k ty name args vars frm loop≠0 then (qQ p ft k ty name args vars frm loop,n)
   else if (zY p ft thn (jT k ty name vars) (jT k ty name vars).length (loop || decide (k=5)) (n+1)).1≠0 then zY p ft thn (jT k ty name vars) (jT k ty name vars).length (loop || decide (k=5)) (n+1)
   else zY p ft els (jT k ty name vars) (jT k ty name vars).length loop (zY p ft thn (jT k ty name vars) (jT k ty name vars).length (loop || decide (k=5)) (n+1)).2
def zY (p:Pr) (ft:Int):List St→List Pa→Nat→Bool→Nat→Int × Nat
 | [],_,_,_,n=>(0,n)
 | s :: r,vars,frm,loop,n=>
   if (vL p ft s vars frm loop n).1≠0 then vL p ft s vars frm loop n
   else zY p ft r (letS s vars) frm loop (vL p ft s vars frm loop n).2
end
def vM:List Pa→Bool
 | []=>false
 | x :: r=>(zQ r x.name).isSome || vM r
def kg (p:Pr) (f:Fu):Int × Nat:=
 if vM f.params then (50,0)
 else if (zY p f.type f.body f.params f.params.length false 0).1≠0 then zY p f.type f.body f.params f.params.length false 0
 else if qi f.body then (0,0) else (52,(zY p f.type f.body f.params f.params.length false 0).2)
def xH (p:Pr):List Fu→Nat→Int × Nat × Nat
 | [],_=>(0,0,0)
 | f :: r,i=>if (kg p f).1≠0 then ((kg p f).1,i,(kg p f).2) else xH p r (i+1)
def xV:List Fu→Bool
 | []=>false
 | f :: r=>(zy r f.name).isSome || xV r
def xQ (p:Pr):List Ar→Bool
 | []=>false
 | a :: r=>(qV r a.name).isSome || (zy p.funcs a.name).isSome || xQ p r
def kB (p:Pr):Bool:=match kd p ⟨#[109,97,105,110]⟩ with | some f=>decide (f.type=1) && decide (f.params.length=0) | none=>false
def vO (p:Pr):Int × Nat × Nat:=
 if prOK p=false then (1,0,0)
 else if xQ p p.arrays || xV p.funcs || !kB p then (50,0,0)
 else xH p p.funcs 0
inductive PR (α:Type) where
 | ok (a:α) (r:List Tok)
 | bad (r:List Tok)
 | deep (r:List Tok)
 | out
def PR.bind {α β:Type} (x:PR α) (f:α→List Tok→PR β):PR β:=
 match x with
 | .ok a r=>f a r
 | .bad r=>.bad r
 | .deep r=>.deep r
 | .out=>.out
def zc (s:List UInt8) (l:List Tok):Bool:=match l with | t :: _=>decide (t.kind=2) && t.text == s | []=>false
def vH (l:List Tok):Int:=match l with | t :: _=>t.kind | []=>3
def hdT (l:List Tok):List UInt8:=match l with | t :: _=>t.text | []=>[]
def zL (s:List UInt8) (l:List Tok):PR Unit:=if zc s l then .ok () l.tail else .bad l
def qJ (k:Int) (l:List Tok):PR ByteArray:=if vH l=k then .ok ⟨(hdT l).toArray⟩ l.tail else .bad l
def sgT (op:Int):List UInt8:=(kW op).data.toList
def xl (lev:Int) (l:List Tok):List Int→Int
 | []=>0
 | op :: r=>if ke op=lev∧zc (sgT op) l=true then op else xl lev l r
def twos:List Int:=[1,2,3,4,5,6,7,8,9,10,11,12,13,14,15,16,17,18,19]
def ones:List Int:=[20,21,22,23,24,25,26,27,28]
def opAt (lev:Int) (l:List Tok):Int:=xl lev l twos
def yM (l:List Tok):List Int→Int
 | []=>0
 | op :: r=>if zc (sgT op) l=true then op else yM l r
def unAt (l:List Tok):Int:=yM l ones
def bE:ByteArray:=⟨#[]⟩
def uZ:List UInt8:=[116,114,117,101]
def yk:List UInt8:=[102,97,108,115,101]
def sRead:List UInt8:=[114,101,97,100]
def ue:List UInt8:=[105,110,116]
def kY:List UInt8:=[98,111,111,108]
def sIf:List UInt8:=[105,102]
def sElse:List UInt8:=[101,108,115,101]
def vV:List UInt8:=[119,104,105,108,101]
def uf:List UInt8:=[98,114,101,97,107]
def sCont:List UInt8:=[99,111,110,116,105,110,117,101]
def sRet:List UInt8:=[114,101,116,117,114,110]
def sPrint:List UInt8:=[112,114,105,110,116]
mutual
def pE:Nat→Int→Int→List Tok→PR Ex
 | 0,_,_,_=>.out
 | n+1,lev,d,l=>if 10<lev then pU n d l else (pE n (lev+1) d l).bind fun a r=>pL n lev d a r
def pL:Nat→Int→Int→Ex→List Tok→PR Ex
 | 0,_,_,_,_=>.out
 | n+1,lev,d,a,l=>if opAt lev l=0 then .ok a l else (pE n (lev+1) d l.tail).bind fun b r=>pL n lev d (.mk 5 (opAt lev l) 0 bE [a,b]) r
def pU:Nat→Int→List Tok→PR Ex
 | 0,_,_=>.out
 | n+1,d,l=>
   if 100<d then .deep l
   else if unAt l=0 then pP n d l
   else if 23≤unAt l then (zL [40] l.tail).bind fun _ r=>(pE n 1 (d+1) r).bind fun e r=>(zL [41] r).bind fun _ r=>.ok (.mk 4 (unAt l) 0 bE [e]) r
   else (pU n (d+1) l.tail).bind fun e r=>.ok (.mk 4 (unAt l) 0 bE [e]) r
def pP:Nat→Int→List Tok→PR Ex
 | 0,_,_=>.out
 | n+1,d,l=>
   if zc [40] l=true then (pE n 1 (d+1) l.tail).bind fun e r=>(zL [41] r).bind fun _ r=>.ok e r
   else if zc uZ l=true then .ok (.mk 2 0 1 bE []) l.tail
   else if zc yk l=true then .ok (.mk 2 0 0 bE []) l.tail
   else if zc sRead l=true then (zL [40] l.tail).bind fun _ r=>(zL [41] r).bind fun _ r=>.ok (.mk 8 0 0 bE []) r
   else if vH l=0 then .ok (.mk 1 0 (j8 0 (hdT l)) bE []) l.tail
   else (qJ 1 l).bind fun s r=>pN n d s r
def pN:Nat→Int→ByteArray→List Tok→PR Ex
 | 0,_,_,_=>.out
 | n+1,d,s,l=>
   if zc [40] l=true then (pA n (d+1) l.tail).bind fun es r=>.ok (.mk 7 0 0 s es) r
   else if zc [91] l=true then (pE n 1 (d+1) l.tail).bind fun e r=>(zL [93] r).bind fun _ r=>.ok (.mk 6 0 0 s [e]) r
   else .ok (.mk 3 0 0 s []) l
def pA:Nat→Int→List Tok→PR (List Ex)
 | 0,_,_=>.out
 | n+1,d,l=>if zc [41] l=true then .ok [] l.tail else pAL n d [] l
def pAL:Nat→Int→List Ex→List Tok→PR (List Ex)
 | 0,_,_,_=>.out
 | n+1,d,acc,l=>(pE n 1 d l).bind fun e r=>if zc [44] r=true then pAL n d (acc++[e]) r.tail else (zL [41] r).bind fun _ r=>.ok (acc++[e]) r
end
def pI (n:Nat) (l:List Tok):PR Ex:=(zL [40] l).bind fun _ r=>(pE n 1 1 r).bind fun e r=>(zL [41] r).bind fun _ r=>.ok e r
def ug (l:List Tok):PR Int:=if zc ue l=true then .ok 1 l.tail else (zL kY l).bind fun _ r=>.ok 2 r
def yZ {α:Type} (x:PR α):PR α:=x.bind fun a r=>(zL [59] r).bind fun _ r=>.ok a r
def pNm (n:Nat) (l:List Tok):PR St:=(qJ 1 l).bind fun s r=>
 if zc [40] r=true then (pA n 2 r.tail).bind fun es r=>.ok (.mk 10 0 bE [.mk 7 0 0 s es] [] []) r
 else if zc [91] r=true then (pE n 1 1 r.tail).bind fun e r=>(zL [93] r).bind fun _ r=>(zL [61] r).bind fun _ r=>(pE n 1 1 r).bind fun f r=>.ok (.mk 3 0 s [e,f] [] []) r
 else (zL [61] r).bind fun _ r=>(pE n 1 1 r).bind fun e r=>.ok (.mk 2 0 s [e] [] []) r
mutual
def pS:Nat→Int→List Tok→PR St
 | 0,_,_=>.out
 | n+1,d,l=>
   if 100<d then .deep l
   else if zc ue l=true∨zc kY l=true then yZ ((ug l).bind fun t r=>(qJ 1 r).bind fun s r=>(zL [61] r).bind fun _ r=>(pE n 1 1 r).bind fun e r=>.ok (.mk 1 t s [e] [] []) r)
   else if zc sIf l=true then (pI n l.tail).bind fun e r=>(pB n (d+1) r).bind fun t r=>pEl n d e t r
   else if zc vV l=true then (pI n l.tail).bind fun e r=>(pB n (d+1) r).bind fun t r=>.ok (.mk 5 0 bE [e] t []) r
   else if zc uf l=true then yZ (.ok (.mk 6 0 bE [] [] []) l.tail)
   else if zc sCont l=true then yZ (.ok (.mk 7 0 bE [] [] []) l.tail)
   else if zc sRet l=true then yZ ((pE n 1 1 l.tail).bind fun e r=>.ok (.mk 8 0 bE [e] [] []) r)
   else if zc sPrint l=true then yZ ((pI n l.tail).bind fun e r=>.ok (.mk 9 0 bE [e] [] []) r)
   else yZ (pNm n l)
def pEl:Nat→Int→Ex→List St→List Tok→PR St
 | 0,_,_,_,_=>.out
 | n+1,d,e,t,l=>if zc sElse l=true then (pB n (d+1) l.tail).bind fun u r=>.ok (.mk 4 0 bE [e] t u) r else .ok (.mk 4 0 bE [e] t []) l
def pB:Nat→Int→List Tok→PR (List St)
 | 0,_,_=>.out
 | n+1,d,l=>(zL [123] l).bind fun _ r=>pBL n d [] r
def pBL:Nat→Int→List St→List Tok→PR (List St)
 | 0,_,_,_=>.out
 | n+1,d,acc,l=>if zc [125] l=true then .ok acc l.tail else (pS n d l).bind fun s r=>pBL n d (acc++[s]) r
end
def pPL:Nat→List Pa→List Tok→PR (List Pa)
 | 0,_,_=>.out
 | n+1,acc,l=>(ug l).bind fun t r=>(qJ 1 r).bind fun s r=>if zc [44] r=true then pPL n (acc++[⟨s,t⟩]) r.tail else (zL [41] r).bind fun _ r=>.ok (acc++[⟨s,t⟩]) r
def pPs (n:Nat) (l:List Tok):PR (List Pa):=(zL [40] l).bind fun _ r=>if zc [41] r=true then .ok [] r.tail else pPL n [] r
def pFn (n:Nat) (t:Int) (s:ByteArray) (l:List Tok):PR Fu:=(pPs n l).bind fun ps r=>(pB n 1 r).bind fun b r=>.ok ⟨s,t,ps,b⟩ r
def pArr (s:ByteArray) (l:List Tok):PR Ar:=(qJ 0 l).bind fun t r=>(zL [93] r).bind fun _ r=>(zL [59] r).bind fun _ r=>.ok ⟨s,j8 0 t.data.toList⟩ r
def ut:Nat→Pr→List Tok→PR Pr
 | 0,_,_=>.out
 | n+1,p,l=>if vH l=3 then .ok p l else (ug l).bind fun t r=>(qJ 1 r).bind fun s r=>
    if t=1∧p.funcs=[]∧zc [91] r=true then (pArr s r.tail).bind fun a r=>ut n ⟨p.arrays++[a],p.funcs⟩ r
    else (pFn n t s r).bind fun f r=>ut n ⟨p.arrays,p.funcs++[f]⟩ r
def zh (l:List Tok):Prop:=∃ i e,l=i++[e]∧e.kind=3∧∀ t ∈ i,t.kind≠3
theorem zh.ne {l:List Tok} (h:zh l):l≠[]:=by obtain⟨i,e,rfl,_⟩:=h;simp
theorem zh.pos {l:List Tok} (h:zh l):0<l.length:=List.length_pos_iff.2 h.ne
theorem zh.tail {l:List Tok} (h:zh l) (hk:vH l≠3):zh l.tail:=by
 obtain⟨i,e,rfl,he,hi⟩:=h;cases i with
 | nil=>exact absurd he hk
 | cons a i=>exact⟨i,e,rfl,he,fun t ht=>hi t (List.mem_cons_of_mem _ ht)⟩
theorem vW {s:List UInt8} {l:List Tok} (h:zc s l=true):vH l=2∧hdT l=s:=by
 cases l with
 | nil=>cases h
 | cons t r=>
   simp only[zc,Bool.and_eq_true,decide_eq_true_eq]at h;exact⟨h.1,by simpa[hdT] using h.2⟩
theorem zh.sign {l:List Tok} (h:zh l) {s:List UInt8} (hs:zc s l=true):zh l.tail:=h.tail (by rw[(vW hs).1];decide)
theorem qy {l:List Tok} (h:zh l):l.tail.length+1=l.length:=by
 have:=h.pos;rw[List.length_tail];omega
theorem yA {lev:Int} {l:List Tok}:∀ {ops:List Int},xl lev l ops≠0→∃ s,zc s l=true
 | [],h=>absurd rfl h
 | op :: r,h=>by
   rw[xl]at h;split at h
   · rename_i hc
     exact⟨_,hc.2⟩
   · exact yA h
theorem vY {l:List Tok}:∀ {ops:List Int},yM l ops≠0→∃ s,zc s l=true
 | [],h=>absurd rfl h
 | op :: r,h=>by
   rw[yM]at h;split at h
   · rename_i hc
     exact⟨_,hc⟩
   · exact vY h
def zH (k:Nat) (l r:List Tok):Prop:=r <:+l∧zh r∧r.length+k≤l.length
def zZ {α:Type} (k:Nat) (l:List Tok):PR α→Prop
 | .ok _ r=>zH k l r
 | .bad r=>zH 0 l r
 | .deep r=>zH 0 l r
 | .out=>True
theorem zH.self {l:List Tok} (h:zh l):zH 0 l l:=⟨List.suffix_refl _,h,Nat.le_refl _⟩
theorem zH.tail {l:List Tok} (h:zh l) (hk:vH l≠3):zH 1 l l.tail:=⟨List.tail_suffix l,h.tail hk,by rw[qy h];exact Nat.le_refl _⟩
theorem zH.sign {l:List Tok} (h:zh l) {s:List UInt8} (hs:zc s l=true):zH 1 l l.tail:=zH.tail h (by rw[(vW hs).1];decide)
theorem zH.trans {k m:Nat} {a b c:List Tok} (h:zH k a b) (g:zH m b c):zH (k+m) a c:=⟨g.1.trans h.1,g.2.1,by have:=h.2.2;have:=g.2.2;omega⟩
theorem zH.mono {k m:Nat} {a b:List Tok} (h:zH k a b) (hm:m≤k):zH m a b:=⟨h.1,h.2.1,by have:=h.2.2;omega⟩
theorem zZ.mono {α:Type} {k m:Nat} {l:List Tok} {x:PR α} (h:zZ k l x) (hm:m≤k):zZ m l x:=by
 cases x with
 | ok a r=>exact zH.mono (show zH k l r from h) hm
 | bad r=>exact h
 | deep r=>exact h
 | out=>trivial
theorem zZ.from {α:Type} {k m n:Nat} {l r:List Tok} {x:PR α} (h:zH m l r) (g:zZ k r x) (hn:n≤m+k):zZ n l x:=by
 cases x with
 | ok a t=>exact(h.trans (show zH k r t from g)).mono hn
 | bad t=>exact(h.trans (show zH 0 r t from g)).mono (Nat.zero_le _)
 | deep t=>exact(h.trans (show zH 0 r t from g)).mono (Nat.zero_le _)
 | out=>trivial
theorem zZ.bind {α β:Type} {k m n:Nat} {l:List Tok} {x:PR α} {f:α→List Tok→PR β} (h:zZ k l x) (g:∀ a r,x=.ok a r→zh r→zZ m r (f a r)) (hn:n≤k+m):zZ n l (x.bind f):=by
 cases x with
 | ok a r=>exact zZ.from (show zH k l r from h) (g a r rfl (show zH k l r from h).2.1) hn
 | bad r=>exact h
 | deep r=>exact h
 | out=>trivial
theorem zZ.self {α:Type} {l:List Tok} (h:zh l) (a:α):zZ 0 l (.ok a l):=zH.self h
theorem zJ {l:List Tok} (h:zh l) (s:List UInt8):zZ 1 l (zL s l):=by
 unfold zL;split
 · rename_i hs
   exact zH.sign h hs
 · exact zH.self h
theorem qR {l:List Tok} (h:zh l) (k:Int) (hk:k≠3):zZ 1 l (qJ k l):=by
 unfold qJ;split
 · rename_i hs
   exact zH.tail h (by rw[hs];exact hk)
 · exact zH.self h
theorem fits_expr (n:Nat):(∀ lev d l,zh l→zZ 1 l (pE n lev d l))∧(∀ lev d a l,zh l→zZ 0 l (pL n lev d a l))∧(∀ d l,zh l→zZ 1 l (pU n d l))∧(∀ d l,zh l→zZ 1 l (pP n d l))∧
 (∀ d s l,zh l→zZ 0 l (pN n d s l))∧(∀ d l,zh l→zZ 1 l (pA n d l))∧(∀ d acc l,zh l→zZ 1 l (pAL n d acc l)):=by
 induction n with
 | zero=>exact⟨fun _ _ _ _=>by rw[pE];trivial,fun _ _ _ _ _=>by rw[pL];trivial,fun _ _ _=>by rw[pU];trivial,fun _ _ _=>by rw[pP];trivial,fun _ _ _ _=>by rw[pN];trivial,fun _ _ _=>by rw[pA];trivial,fun _ _ _ _=>by rw[pAL];trivial⟩
 | succ n ih=>
   obtain⟨iE,iL,iU,iP,iN,iA,iAL⟩:=ih;refine⟨fun lev d l h=>?_,fun lev d a l h=>?_,fun d l h=>?_,fun d l h=>?_,fun d s l h=>?_,fun d l h=>?_,fun d acc l h=>?_⟩
   · rw[pE]
     split
     · exact iU d l h
     · exact(iE _ _ _ h).bind (fun a r _ hr=>iL _ _ _ _ hr) (by omega)
   · rw[pL]
     split
     · exact zZ.self h _
     · rename_i ho
       obtain⟨s,hs⟩:=yA ho;exact zZ.from (zH.sign h hs) ((iE _ _ _ (h.sign hs)).bind (n:=1) (fun a r _ hr=>iL _ _ _ _ hr) (by omega)) (by omega)
   · rw[pU]
     split
     · exact zH.self h
     · split
       · exact iP d l h
       · rename_i ho
         obtain⟨s,hs⟩:=vY ho;split
         · exact zZ.from (zH.sign h hs) ((zJ (h.sign hs) _).bind (n:=0) (fun _ r _ hr=>(iE _ _ _ hr).bind (n:=0) (fun e r _ hr=>(zJ hr _).bind (n:=0) (fun _ r _ hr=>zZ.self hr _) (by omega)) (by omega)) (by omega)) (by omega)
         · exact zZ.from (zH.sign h hs) ((iU _ _ (h.sign hs)).bind (n:=0) (fun _ r _ hr=>zZ.self hr _) (by omega)) (by omega)
   · rw[pP]
     split
     · rename_i hs
       exact zZ.from (zH.sign h hs) ((iE _ _ _ (h.sign hs)).bind (n:=0) (fun e r _ hr=>(zJ hr _).bind (n:=0) (fun _ r _ hr=>zZ.self hr _) (by omega)) (by omega)) (by omega)
     · split
       · rename_i hs
         exact zH.sign h hs
       · split
         · rename_i hs
           exact zH.sign h hs
         · split
           · rename_i hs
             exact zZ.from (zH.sign h hs) ((zJ (h.sign hs) _).bind (n:=0) (fun _ r _ hr=>(zJ hr _).bind (n:=0) (fun _ r _ hr=>zZ.self hr _) (by omega)) (by omega)) (by omega)
           · split
             · rename_i hk
               exact zH.tail h (by rw[hk];decide)
             · exact(qR h 1 (by decide)).bind (fun s r _ hr=>iN _ _ _ hr) (by omega)
   · rw[pN]
     split
     · rename_i hs
       exact zZ.from (zH.sign h hs) ((iA _ _ (h.sign hs)).bind (n:=0) (fun _ r _ hr=>zZ.self hr _) (by omega)) (by omega)
     · split
       · rename_i hs
         exact zZ.from (zH.sign h hs) ((iE _ _ _ (h.sign hs)).bind (n:=0) (fun e r _ hr=>(zJ hr _).bind (n:=0) (fun _ r _ hr=>zZ.self hr _) (by omega)) (by omega)) (by omega)
       · exact zZ.self h _
   · rw[pA]
     split
     · rename_i hs
       exact zH.sign h hs
     · exact iAL _ _ _ h
   · rw[pAL]
     refine(iE _ _ _ h).bind (m:=0) (fun e r _ hr=>?_) (by omega);split
     · rename_i hs
       exact zZ.from (zH.sign hr hs) (iAL _ _ _ (hr.sign hs)) (by omega)
     · exact(zJ hr _).bind (n:=0) (fun _ r _ hr=>zZ.self hr _) (by omega)
theorem qK {n:Nat} {lev d:Int} {l:List Tok} (h:zh l):zZ 1 l (pE n lev d l):=(fits_expr n).1 lev d l h
theorem pA_fits {n:Nat} {d:Int} {l:List Tok} (h:zh l):zZ 1 l (pA n d l):=(fits_expr n).2.2.2.2.2.1 d l h
theorem xW {n:Nat} {l:List Tok} (h:zh l):zZ 1 l (pI n l):=by
 unfold pI;exact(zJ h _).bind (m:=0) (fun _ r _ hr=>(qK hr).bind (n:=0) (fun e r _ hr=>(zJ hr _).bind (n:=0) (fun _ r _ hr=>zZ.self hr _) (by omega)) (by omega)) (by omega)
theorem kh {l:List Tok} (h:zh l):zZ 1 l (ug l):=by
 unfold ug;split
 · rename_i hs
   exact zH.sign h hs
 · exact(zJ h _).bind (m:=0) (fun _ r _ hr=>zZ.self hr _) (by omega)
theorem kq {α:Type} {k:Nat} {l:List Tok} {x:PR α} (h:zZ k l x):zZ k l (yZ x):=by
 unfold yZ;exact h.bind (m:=0) (fun _ r _ hr=>(zJ hr _).bind (n:=0) (fun _ r _ hr=>zZ.self hr _) (by omega)) (by omega)
theorem pNm_fits {n:Nat} {l:List Tok} (h:zh l):zZ 1 l (pNm n l):=by
 unfold pNm;refine(qR h 1 (by decide)).bind (m:=0) (fun s r _ hr=>?_) (by omega);split
 · rename_i hs
   exact zZ.from (zH.sign hr hs) ((pA_fits (hr.sign hs)).bind (n:=0) (fun _ r _ hr=>zZ.self hr _) (by omega)) (by omega)
 · split
   · rename_i hs
     exact zZ.from (zH.sign hr hs) ((qK (hr.sign hs)).bind (n:=0) (fun e r _ hr=>(zJ hr _).bind (n:=0) (fun _ r _ hr=>(zJ hr _).bind (n:=0) (fun _ r _ hr=>(qK hr).bind (n:=0) (fun _ r _ hr=>zZ.self hr _) (by omega)) (by omega)) (by omega)) (by omega)) (by omega)
   · exact(zJ hr _).bind (n:=0) (fun _ r _ hr=>(qK hr).bind (n:=0) (fun _ r _ hr=>zZ.self hr _) (by omega)) (by omega)
theorem fits_stmt (n:Nat):(∀ d l,zh l→zZ 1 l (pS n d l))∧(∀ d e t l,zh l→zZ 0 l (pEl n d e t l))∧(∀ d l,zh l→zZ 1 l (pB n d l))∧(∀ d acc l,zh l→zZ 1 l (pBL n d acc l)):=by
 induction n with
 | zero=>exact⟨fun _ _ _=>by rw[pS];trivial,fun _ _ _ _ _=>by rw[pEl];trivial,fun _ _ _=>by rw[pB];trivial,fun _ _ _ _=>by rw[pBL];trivial⟩
 | succ n ih=>
   obtain⟨iS,iEl,iB,iBL⟩:=ih;refine⟨fun d l h=>?_,fun d e t l h=>?_,fun d l h=>?_,fun d acc l h=>?_⟩
   · rw[pS]
     split
     · exact zH.self h
     · split
       · refine kq ((kh h).bind (m:=0) (fun t r _ hr=>(qR hr 1 (by decide)).bind (n:=0) (fun s r _ hr=>(zJ hr _).bind (n:=0) (fun _ r _ hr=>(qK hr).bind (n:=0) (fun _ r _ hr=>zZ.self hr _) (by omega)) (by omega)) (by omega)) (by omega))
       · split
         · rename_i hs
           exact zZ.from (zH.sign h hs) ((xW (h.sign hs)).bind (n:=0) (fun e r _ hr=>(iB _ _ hr).bind (n:=0) (fun t r _ hr=>iEl _ _ _ _ hr) (by omega)) (by omega)) (by omega)
         · split
           · rename_i hs
             exact zZ.from (zH.sign h hs) ((xW (h.sign hs)).bind (n:=0) (fun e r _ hr=>(iB _ _ hr).bind (n:=0) (fun t r _ hr=>zZ.self hr _) (by omega)) (by omega)) (by omega)
           · split
             · rename_i hs
               exact kq (show zH 1 l l.tail from zH.sign h hs)
             · split
               · rename_i hs
                 exact kq (show zH 1 l l.tail from zH.sign h hs)
               · split
                 · rename_i hs
                   exact kq (zZ.from (zH.sign h hs) ((qK (h.sign hs)).bind (n:=0) (fun _ r _ hr=>zZ.self hr _) (by omega)) (by omega))
                 · split
                   · rename_i hs
                     exact kq (zZ.from (zH.sign h hs) ((xW (h.sign hs)).bind (n:=0) (fun _ r _ hr=>zZ.self hr _) (by omega)) (by omega))
                   · exact kq (pNm_fits h)
   · rw[pEl]
     split
     · rename_i hs
       exact zZ.from (zH.sign h hs) ((iB _ _ (h.sign hs)).bind (n:=0) (fun _ r _ hr=>zZ.self hr _) (by omega)) (by omega)
     · exact zZ.self h _
   · rw[pB]
     exact(zJ h _).bind (m:=0) (fun _ r _ hr=>(iBL _ _ _ hr).mono (by omega)) (by omega)
   · rw[pBL]
     split
     · rename_i hs
       exact zH.sign h hs
     · exact(iS _ _ h).bind (m:=0) (fun _ r _ hr=>(iBL _ _ _ hr).mono (by omega)) (by omega)
theorem pS_fits {n:Nat} {d:Int} {l:List Tok} (h:zh l):zZ 1 l (pS n d l):=(fits_stmt n).1 d l h
theorem uA {n:Nat} {d:Int} {l:List Tok} (h:zh l):zZ 1 l (pB n d l):=(fits_stmt n).2.2.1 d l h
theorem pPL_fits:∀ (n:Nat) (acc:List Pa) (l:List Tok),zh l→zZ 1 l (pPL n acc l)
 | 0,_,_,_=>by rw[pPL];trivial
 | n+1,acc,l,h=>by
   rw[pPL];refine(kh h).bind (m:=0) (fun t r _ hr=>(qR hr 1 (by decide)).bind (m:=0) (fun s r _ hr=>?_) (by omega)) (by omega);split
   · rename_i hs
     exact zZ.from (zH.sign hr hs) (pPL_fits n _ _ (hr.sign hs)) (by omega)
   · exact(zJ hr _).bind (n:=0) (fun _ r _ hr=>zZ.self hr _) (by omega)
theorem pPs_fits {n:Nat} {l:List Tok} (h:zh l):zZ 1 l (pPs n l):=by
 unfold pPs;refine(zJ h _).bind (m:=0) (fun _ r _ hr=>?_) (by omega);split
 · rename_i hs
   exact(show zH 1 r r.tail from zH.sign hr hs).mono (by omega)
 · exact(pPL_fits n _ _ hr).mono (by omega)
theorem vZ {n:Nat} {t:Int} {s:ByteArray} {l:List Tok} (h:zh l):zZ 1 l (pFn n t s l):=by
 unfold pFn;exact(pPs_fits h).bind (m:=0) (fun _ r _ hr=>(uA hr).bind (n:=0) (fun _ r _ hr=>zZ.self hr _) (by omega)) (by omega)
theorem pArr_fits {s:ByteArray} {l:List Tok} (h:zh l):zZ 1 l (pArr s l):=by
 unfold pArr;exact(qR h 0 (by decide)).bind (m:=0) (fun _ r _ hr=>(zJ hr _).bind (n:=0) (fun _ r _ hr=>(zJ hr _).bind (n:=0) (fun _ r _ hr=>zZ.self hr _) (by omega)) (by omega)) (by omega)
end Go.Proofs.YtfghofifjnbicaaGreatDoor
