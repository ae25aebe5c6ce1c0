import Derived.Test.YtfghofifjnbicaaGreatDoorAhZed
import Derived.Test.YtfghofifjnbicaaGreatDoorAhTyMath
set_option linter.unusedSimpArgs false
set_option linter.unusedVariables false
set_option maxRecDepth 100000
/- With fuel enough the plain parser looks at all: no Go, no program. -/
namespace Go.Proofs.YtfghofifjnbicaaGreatDoor
open Lib (hid)
open Go.RowKit
def zG {α:Type} (x:PR α):Prop:=match x with | .out=>False | _=>True
theorem zG.bind {α β:Type} {k:Nat} {l:List Tok} {x:PR α} {f:α→List Tok→PR β} (hf:zY k l x) (h:zG x) (g:∀ a r,x=.ok a r→ze r→r.length+k≤l.length→zG (f a r)):zG (x.bind f):=by
 cases x with
 | ok a r=>exact g a r rfl (show zH k l r from hf).2.1 (show zH k l r from hf).2.2
 | bad r=>trivial
 | deep r=>trivial
 | out=>exact h
theorem zt (s:List UInt8) (l:List Tok):zG (zL s l):=by unfold zL;split <;> trivial
theorem xU (k:Int) (l:List Tok):zG (qP k l):=by unfold qP;split <;> trivial
theorem ends_expr (n:Nat):(∀ lev d l,ze l→1≤lev→lev≤11→20 * (l.length:Int)+15-lev≤n→zG (pE n lev d l))∧(∀ lev d a l,ze l→1≤lev→lev≤10→20 * (l.length:Int)+15-lev≤n→zG (pL n lev d a l))∧
 (∀ d l,ze l→20 * l.length+3≤n→zG (pU n d l))∧(∀ d l,ze l→20 * l.length+2≤n→zG (pP n d l))∧
 (∀ d s l,ze l→20 * l.length+1≤n→zG (pN n d s l))∧(∀ d l,ze l→20 * l.length+16≤n→zG (pA n d l))∧(∀ d acc l,ze l→20 * l.length+15≤n→zG (pAL n d acc l)):=by
 induction n with
 | zero=>exact⟨fun _ _ _ _ _ _ _=>by omega,fun _ _ _ _ _ _ _ _=>by omega,fun _ _ _ _=>by omega,fun _ _ _ _=>by omega,fun _ _ _ _ _=>by omega,fun _ _ _ _=>by omega,fun _ _ _ _ _=>by omega⟩
 | succ n ih=>
   obtain⟨iE,iL,iU,iP,iN,iA,iAL⟩:=ih;refine⟨fun lev d l h h1 h2 hn=>?_,fun lev d a l h h1 h2 hn=>?_,fun d l h hn=>?_,fun d l h hn=>?_,fun d s l h hn=>?_,fun d l h hn=>?_,fun d acc l h hn=>?_⟩
   · rw[pE]
     split
     · exact iU d l h (by omega)
     · exact zG.bind (qQ h) (iE _ _ _ h (by omega) (by omega) (by omega)) fun a r _ hr hl=>iL _ _ _ _ hr h1 (by omega) (by omega)
   · rw[pL]
     split
     · trivial
     · rename_i ho
       obtain⟨s,hs⟩:=xo ho;have ht:=jB h;exact zG.bind (qQ (h.sign hs)) (iE _ _ _ (h.sign hs) (by omega) (by omega) (by omega)) fun a r _ hr hl=>iL _ _ _ _ hr h1 h2 (by omega)
   · rw[pU]
     split
     · trivial
     · split
       · exact iP d l h (by omega)
       · rename_i ho
         obtain⟨s,hs⟩:=vD ho;have ht:=jB h;split
         · exact zG.bind (zJ (h.sign hs) _) (zt _ _) fun _ r _ hr hl=>zG.bind (qQ hr) (iE _ _ _ hr (by omega) (by omega) (by omega)) fun e r _ hr hl=>zG.bind (zJ hr _) (zt _ _) fun _ r _ hr hl=>trivial
         · exact zG.bind ((fits_expr n).2.2.1 _ _ (h.sign hs)) (iU _ _ (h.sign hs) (by omega)) fun _ r _ hr hl=>trivial
   · rw[pP]
     have ht:=jB h;split
     · rename_i hs
       exact zG.bind (qQ (h.sign hs)) (iE _ _ _ (h.sign hs) (by omega) (by omega) (by omega)) fun e r _ hr hl=>zG.bind (zJ hr _) (zt _ _) fun _ r _ hr hl=>trivial
     · split
       · trivial
       · split
         · trivial
         · split
           · rename_i hs
             exact zG.bind (zJ (h.sign hs) _) (zt _ _) fun _ r _ hr hl=>zG.bind (zJ hr _) (zt _ _) fun _ r _ hr hl=>trivial
           · split
             · trivial
             · exact zG.bind (qX h 1 (by decide)) (xU _ _) fun s r _ hr hl=>iN _ _ _ hr (by omega)
   · rw[pN]
     have ht:=jB h;split
     · rename_i hs
       exact zG.bind (pA_fits (h.sign hs)) (iA _ _ (h.sign hs) (by omega)) fun _ r _ hr hl=>trivial
     · split
       · rename_i hs
         exact zG.bind (qQ (h.sign hs)) (iE _ _ _ (h.sign hs) (by omega) (by omega) (by omega)) fun e r _ hr hl=>zG.bind (zJ hr _) (zt _ _) fun _ r _ hr hl=>trivial
       · trivial
   · rw[pA]
     split
     · trivial
     · exact iAL _ _ _ h (by omega)
   · rw[pAL]
     refine zG.bind (qQ h) (iE _ _ _ h (by omega) (by omega) (by omega)) fun e r _ hr hl=>?_
     split
     · rename_i hs
       have ht:=jB hr;exact iAL _ _ _ (hr.sign hs) (by omega)
     · exact zG.bind (zJ hr _) (zt _ _) fun _ r _ hr hl=>trivial
theorem vZ {n:Nat} {d:Int} {l:List Tok} (h:ze l) (hn:20 * l.length+14≤n):zG (pE n 1 d l):=(ends_expr n).1 1 d l h (by omega) (by omega) (by omega)
theorem pA_ends {n:Nat} {d:Int} {l:List Tok} (h:ze l) (hn:20 * l.length+16≤n):zG (pA n d l):=(ends_expr n).2.2.2.2.2.1 d l h hn
theorem pI_ends {n:Nat} {l:List Tok} (h:ze l) (hn:20 * l.length+14≤n):zG (pI n l):=by
 unfold pI;exact zG.bind (zJ h _) (zt _ _) fun _ r _ hr hl=>zG.bind (qQ hr) (vZ hr (by omega)) fun e r _ hr hl=>zG.bind (zJ hr _) (zt _ _) fun _ r _ hr hl=>trivial
theorem pTy_ends {l:List Tok} (h:ze l):zG (uM l):=by
 unfold uM;split
 · trivial
 · exact zG.bind (zJ h _) (zt _ _) fun _ r _ hr hl=>trivial
theorem kf {α:Type} {k:Nat} {l:List Tok} {x:PR α} (hf:zY k l x) (h:zG x):zG (yN x):=by
 unfold yN;exact zG.bind hf h fun _ r _ hr hl=>zG.bind (zJ hr _) (zt _ _) fun _ r _ hr hl=>trivial
theorem pNm_ends {n:Nat} {l:List Tok} (h:ze l) (hn:20 * l.length+16≤n):zG (pNm n l):=by
 unfold pNm;refine zG.bind (qX h 1 (by decide)) (xU _ _) fun s r _ hr hl=>?_
 have ht:=jB hr;split
 · rename_i hs
   exact zG.bind (pA_fits (hr.sign hs)) (pA_ends (hr.sign hs) (by omega)) fun _ r _ hr hl=>trivial
 · split
   · rename_i hs
     exact zG.bind (qQ (hr.sign hs)) (vZ (hr.sign hs) (by omega)) fun e r _ hr hl=>zG.bind (zJ hr _) (zt _ _) fun _ r _ hr hl=>zG.bind (zJ hr _) (zt _ _) fun _ r _ hr hl=>zG.bind (qQ hr) (vZ hr (by omega)) fun _ r _ hr hl=>trivial
   · exact zG.bind (zJ hr _) (zt _ _) fun _ r _ hr hl=>zG.bind (qQ hr) (vZ hr (by omega)) fun _ r _ hr hl=>trivial
theorem ends_stmt (n:Nat):(∀ d l,ze l→20 * l.length+30≤n→zG (pS n d l))∧(∀ d e t l,ze l→20 * l.length+30≤n→zG (pEl n d e t l))∧(∀ d l,ze l→20 * l.length+30≤n→zG (pB n d l))∧(∀ d acc l,ze l→20 * l.length+31≤n→zG (pBL n d acc l)):=by
 induction n with
 | zero=>exact⟨fun _ _ _ _=>by omega,fun _ _ _ _ _ _=>by omega,fun _ _ _ _=>by omega,fun _ _ _ _ _=>by omega⟩
 | succ n ih=>
   obtain⟨iS,iEl,iB,iBL⟩:=ih;refine⟨fun d l h hn=>?_,fun d e t l h hn=>?_,fun d l h hn=>?_,fun d acc l h hn=>?_⟩
   · rw[pS]
     have ht:=jB h;split
     · trivial
     · split
       · exact kf ((kT h).bind (m:=0) (n:=0) (fun t r _ hr=>(qX hr 1 (by decide)).bind (n:=0) (fun s r _ hr=>(zJ hr _).bind (n:=0) (fun _ r _ hr=>(qQ hr).bind (n:=0) (fun _ r _ hr=>zY.self hr _) (by omega)) (by omega)) (by omega)) (by omega))
          (zG.bind (kT h) (pTy_ends h) fun t r _ hr hl=>zG.bind (qX hr 1 (by decide)) (xU _ _) fun s r _ hr hl=>zG.bind (zJ hr _) (zt _ _) fun _ r _ hr hl=>zG.bind (qQ hr) (vZ hr (by omega)) fun _ r _ hr hl=>trivial)
       · split
         · rename_i hs
           exact zG.bind (xN (h.sign hs)) (pI_ends (h.sign hs) (by omega)) fun e r _ hr hl=>zG.bind (vY hr) (iB _ _ hr (by omega)) fun t r _ hr hl=>iEl _ _ _ _ hr (by omega)
         · split
           · rename_i hs
             exact zG.bind (xN (h.sign hs)) (pI_ends (h.sign hs) (by omega)) fun e r _ hr hl=>zG.bind (vY hr) (iB _ _ hr (by omega)) fun t r _ hr hl=>trivial
           · split
             · rename_i hs
               exact kf (k:=1) (l:=l) (show zH 1 l l.tail from zH.sign h hs) trivial
             · split
               · rename_i hs
                 exact kf (k:=1) (l:=l) (show zH 1 l l.tail from zH.sign h hs) trivial
               · split
                 · rename_i hs
                   exact kf ((qQ (h.sign hs)).bind (n:=0) (m:=0) (fun _ r _ hr=>zY.self hr _) (by omega)) (zG.bind (qQ (h.sign hs)) (vZ (h.sign hs) (by omega)) fun _ r _ hr hl=>trivial)
                 · split
                   · rename_i hs
                     exact kf ((xN (h.sign hs)).bind (n:=0) (m:=0) (fun _ r _ hr=>zY.self hr _) (by omega)) (zG.bind (xN (h.sign hs)) (pI_ends (h.sign hs) (by omega)) fun _ r _ hr hl=>trivial)
                   · exact kf (pNm_fits h) (pNm_ends h (by omega))
   · rw[pEl]
     have ht:=jB h;split
     · rename_i hs
       exact zG.bind (vY (h.sign hs)) (iB _ _ (h.sign hs) (by omega)) fun _ r _ hr hl=>trivial
     · trivial
   · rw[pB]
     exact zG.bind (zJ h _) (zt _ _) fun _ r _ hr hl=>iBL _ _ _ hr (by omega)
   · rw[pBL]
     split
     · trivial
     · exact zG.bind (pS_fits h) (iS _ _ h (by omega)) fun _ r _ hr hl=>iBL _ _ _ hr (by omega)
theorem pB_ends {n:Nat} {d:Int} {l:List Tok} (h:ze l) (hn:20 * l.length+30≤n):zG (pB n d l):=(ends_stmt n).2.2.1 d l h hn
theorem pPL_ends:∀ (n:Nat) (acc:List Pa) (l:List Tok),ze l→20 * l.length+1≤n→zG (pPL n acc l)
 | 0,_,_,_,_=>by omega
 | n+1,acc,l,h,hn=>by
   rw[pPL];refine zG.bind (kT h) (pTy_ends h) fun t r _ hr hl=>zG.bind (qX hr 1 (by decide)) (xU _ _) fun s r _ hr hl=>?_
   have ht:=jB hr;split
   · rename_i hs
     exact pPL_ends n _ _ (hr.sign hs) (by omega)
   · exact zG.bind (zJ hr _) (zt _ _) fun _ r _ hr hl=>trivial
theorem pPs_ends {n:Nat} {l:List Tok} (h:ze l) (hn:20 * l.length+1≤n):zG (pPs n l):=by
 unfold pPs;refine zG.bind (zJ h _) (zt _ _) fun _ r _ hr hl=>?_
 split
 · trivial
 · exact pPL_ends n _ _ hr (by omega)
theorem pFn_ends {n:Nat} {t:Int} {s:ByteArray} {l:List Tok} (h:ze l) (hn:20 * l.length+30≤n):zG (pFn n t s l):=by
 unfold pFn;exact zG.bind (pPs_fits h) (pPs_ends h (by omega)) fun _ r _ hr hl=>zG.bind (vY hr) (pB_ends hr (by omega)) fun _ r _ hr hl=>trivial
theorem pArr_ends {s:ByteArray} {l:List Tok} (h:ze l):zG (pArr s l):=by
 unfold pArr;exact zG.bind (qX h 0 (by decide)) (xU _ _) fun _ r _ hr hl=>zG.bind (zJ hr _) (zt _ _) fun _ r _ hr hl=>zG.bind (zJ hr _) (zt _ _) fun _ r _ hr hl=>trivial
theorem pPr_ends:∀ (n:Nat) (p:Pr) (l:List Tok),ze l→20 * l.length+40≤n→zG (uY n p l)
 | 0,_,_,_,_=>by omega
 | n+1,p,l,h,hn=>by
   rw[uY];split
   · trivial
   · refine zG.bind (kT h) (pTy_ends h) fun t r _ hr hl=>zG.bind (qX hr 1 (by decide)) (xU _ _) fun s r _ hr hl=>?_
     split
     · rename_i hs
       have ht:=jB hr;exact zG.bind (pArr_fits (hr.sign hs.2.2)) (pArr_ends (hr.sign hs.2.2)) fun _ r _ hr hl=>pPr_ends n _ _ hr (by omega)
     · exact zG.bind (vE hr) (pFn_ends hr (by omega)) fun _ r _ hr hl=>pPr_ends n _ _ hr (by omega)
def je (l:List Tok):PR Pr:=uY (20 * l.length+40) ⟨[],[]⟩ l
theorem kx {l:List Tok} (h:ze l):zG (je l):=pPr_ends _ _ _ h Zr
def levels:List Int:=[1,2,3,4,5,6,7,8,9,10]
abbrev kM:=List (ByteArray × ByteArray)
def yD:kM→ByteArray→Option ByteArray
 | [],_=>none
 | x :: r,s=>match yD r s with
   | some t=>some t
   | none=>if x.1=s then some x.2 else none
def fnd (l:kM) (s:ByteArray):ByteArray:=(yD l s).getD s
def vN (n:Nat):ByteArray:=⟨(118 :: Lib.decDigits n).toArray⟩
mutual
def renE (names:kM):Ex→Ex
 | .mk k op n name args=>.mk k op n (if k=3 then fnd names name else name) (qe names args)
def qe (names:kM):List Ex→List Ex
 | []=>[]
 | e :: r=>renE names e :: qe names r
end
def xb (k:Int) (name:ByteArray) (all:kM) (n:Nat):kM:=if k=1 then all++[(name,vN n)] else all
def xE (k:Int) (n:Nat):Nat:=if k=1 then n+1 else n
def letSN:St→kM→Nat→kM
 | .mk k _ name _ _ _,all,n=>xb k name all n
mutual
def renS:St→kM→Nat→St × Nat
 | .mk k ty name args thn els,all,n=>
   (.mk k ty (if k=1∨k=2 then fnd (xb k name all n) name else name) (qe all args) (qL thn (xb k name all n) (xE k n)).1 (qL els (xb k name all n) (qL thn (xb k name all n) (xE k n)).2).1,
     (qL els (xb k name all n) (qL thn (xb k name all n) (xE k n)).2).2)
def qL:List St→kM→Nat→List St × Nat
 | [],_,n=>([],n)
 | s :: r,all,n=>((renS s all n).1 :: (qL r (letSN s all n) (renS s all n).2).1,(qL r (letSN s all n) (renS s all n).2).2)
end
def parN:List Pa→Nat→kM
 | [],_=>[]
 | x :: r,n=>(x.name,vN n) :: parN r (n+1)
def renPs:List Pa→Nat→List Pa
 | [],_=>[]
 | x :: r,n=>⟨vN n,x.type⟩ :: renPs r (n+1)
def renF (f:Fu):Fu:=⟨f.name,f.type,renPs f.params 0,(qL f.body (parN f.params 0) f.params.length).1⟩
def renPr (p:Pr):Pr:=⟨p.arrays,p.funcs.map renF⟩
theorem kI (names:kM):∀ l:List Ex,(qe names l).length=l.length
 | []=>by rw[qe]
 | e :: r=>by rw[qe,List.length_cons,List.length_cons,kI names r]
theorem kg:∀ (l:List St) (all:kM) (n:Nat),(qL l all n).1.length=l.length
 | [],_,_=>by rw[qL]
 | s :: r,all,n=>by rw[qL,List.length_cons,List.length_cons,kg r]
theorem xV:∀ (l:List Pa) (n:Nat),(renPs l n).length=l.length
 | [],_=>rfl
 | x :: r,n=>by rw[renPs,List.length_cons,List.length_cons,xV r]
theorem typEs_inl {p:Pr} {vars:List Pa}:∀ {l:List Ex} {x:Int},zi p vars l=.inl x→x≠0
 | [],x,h=>by rw[zi]at h;cases h
 | e :: r,x,h=>by
   rw[zi]at h;by_cases h0:(qI p vars e).2=0
   · rw[if_neg (by simpa using h0)]at h
     cases hr:zi p vars r with
     | inl y=>rw[hr]at h;injection h with h;subst h;exact typEs_inl hr
     | inr l=>rw[hr]at h;cases h
   · rw[if_pos h0]at h
     injection h with h;rw[←h];exact h0
theorem fnd_of {l:kM} {s t:ByteArray} (h:yD l s=some t):fnd l s=t:=by unfold fnd;rw[h];rfl
end Go.Proofs.YtfghofifjnbicaaGreatDoor
