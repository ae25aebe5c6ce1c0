import Derived.Test.YtfghofifjnbicaaGreatDoorAiZed
import Derived.Test.YtfghofifjnbicaaGreatDoorAiTyMath
set_option linter.unusedSimpArgs false
set_option linter.unusedVariables false
set_option maxRecDepth 100000
/- With fuel enough the plain parser looks at all: no Go, no program. -/
namespace Go.Proofs.YtfghofifjnbicaaGreatDoor
open Lib (hid)
open Go.RowKit
def zG {α:Type} (x:PR α):Prop:=match x with | .out=>False | _=>True
theorem zG.bind {α β:Type} {k:Nat} {l:List Tok} {x:PR α} {f:α→List Tok→PR β} (hf:zZ k l x) (h:zG x) (g:∀ a r,x=.ok a r→zh r→r.length+k≤l.length→zG (f a r)):zG (x.bind f):=by
 cases x with
 | ok a r=>exact g a r rfl (show zH k l r from hf).2.1 (show zH k l r from hf).2.2
 | bad r=>trivial
 | deep r=>trivial
 | out=>exact h
theorem zp (s:List UInt8) (l:List Tok):zG (zL s l):=by unfold zL;split <;> trivial
theorem xa (k:Int) (l:List Tok):zG (qJ k l):=by unfold qJ;split <;> trivial
theorem ends_expr (n:Nat):(∀ lev d l,zh l→1≤lev→lev≤11→20 * (l.length:Int)+15-lev≤n→zG (pE n lev d l))∧(∀ lev d a l,zh l→1≤lev→lev≤10→20 * (l.length:Int)+15-lev≤n→zG (pL n lev d a l))∧
 (∀ d l,zh l→20 * l.length+3≤n→zG (pU n d l))∧(∀ d l,zh l→20 * l.length+2≤n→zG (pP n d l))∧
 (∀ d s l,zh l→20 * l.length+1≤n→zG (pN n d s l))∧(∀ d l,zh l→20 * l.length+16≤n→zG (pA n d l))∧(∀ d acc l,zh l→20 * l.length+15≤n→zG (pAL n d acc l)):=by
 induction n with
 | zero=>exact⟨fun _ _ _ _ _ _ _=>by omega,fun _ _ _ _ _ _ _ _=>by omega,fun _ _ _ _=>by omega,fun _ _ _ _=>by omega,fun _ _ _ _ _=>by omega,fun _ _ _ _=>by omega,fun _ _ _ _ _=>by omega⟩
 | succ n ih=>
   obtain⟨iE,iL,iU,iP,iN,iA,iAL⟩:=ih;refine⟨fun lev d l h h1 h2 hn=>?_,fun lev d a l h h1 h2 hn=>?_,fun d l h hn=>?_,fun d l h hn=>?_,fun d s l h hn=>?_,fun d l h hn=>?_,fun d acc l h hn=>?_⟩
   · rw[pE]
     split
     · exact iU d l h (by omega)
     · exact zG.bind (qK h) (iE _ _ _ h (by omega) (by omega) (by omega)) fun a r _ hr hl=>iL _ _ _ _ hr h1 (by omega) (by omega)
   · rw[pL]
     split
     · trivial
     · rename_i ho
       obtain⟨s,hs⟩:=yA ho;have ht:=qy h;exact zG.bind (qK (h.sign hs)) (iE _ _ _ (h.sign hs) (by omega) (by omega) (by omega)) fun a r _ hr hl=>iL _ _ _ _ hr h1 h2 (by omega)
   · rw[pU]
     split
     · trivial
     · split
       · exact iP d l h (by omega)
       · rename_i ho
         obtain⟨s,hs⟩:=vY ho;have ht:=qy h;split
         · exact zG.bind (zJ (h.sign hs) _) (zp _ _) fun _ r _ hr hl=>zG.bind (qK hr) (iE _ _ _ hr (by omega) (by omega) (by omega)) fun e r _ hr hl=>zG.bind (zJ hr _) (zp _ _) fun _ r _ hr hl=>trivial
         · exact zG.bind ((fits_expr n).2.2.1 _ _ (h.sign hs)) (iU _ _ (h.sign hs) (by omega)) fun _ r _ hr hl=>trivial
   · rw[pP]
     have ht:=qy h;split
     · rename_i hs
       exact zG.bind (qK (h.sign hs)) (iE _ _ _ (h.sign hs) (by omega) (by omega) (by omega)) fun e r _ hr hl=>zG.bind (zJ hr _) (zp _ _) fun _ r _ hr hl=>trivial
     · split
       · trivial
       · split
         · trivial
         · split
           · rename_i hs
             exact zG.bind (zJ (h.sign hs) _) (zp _ _) fun _ r _ hr hl=>zG.bind (zJ hr _) (zp _ _) fun _ r _ hr hl=>trivial
           · split
             · trivial
             · exact zG.bind (qR h 1 (by decide)) (xa _ _) fun s r _ hr hl=>iN _ _ _ hr (by omega)
   · rw[pN]
     have ht:=qy h;split
     · rename_i hs
       exact zG.bind (pA_fits (h.sign hs)) (iA _ _ (h.sign hs) (by omega)) fun _ r _ hr hl=>trivial
     · split
       · rename_i hs
         exact zG.bind (qK (h.sign hs)) (iE _ _ _ (h.sign hs) (by omega) (by omega) (by omega)) fun e r _ hr hl=>zG.bind (zJ hr _) (zp _ _) fun _ r _ hr hl=>trivial
       · trivial
   · rw[pA]
     split
     · trivial
     · exact iAL _ _ _ h (by omega)
   · rw[pAL]
     refine zG.bind (qK h) (iE _ _ _ h (by omega) (by omega) (by omega)) fun e r _ hr hl=>?_
     split
     · rename_i hs
       have ht:=qy hr;exact iAL _ _ _ (hr.sign hs) (by omega)
     · exact zG.bind (zJ hr _) (zp _ _) fun _ r _ hr hl=>trivial
theorem uB {n:Nat} {d:Int} {l:List Tok} (h:zh l) (hn:20 * l.length+14≤n):zG (pE n 1 d l):=(ends_expr n).1 1 d l h (by omega) (by omega) (by omega)
theorem pA_ends {n:Nat} {d:Int} {l:List Tok} (h:zh l) (hn:20 * l.length+16≤n):zG (pA n d l):=(ends_expr n).2.2.2.2.2.1 d l h hn
theorem pI_ends {n:Nat} {l:List Tok} (h:zh l) (hn:20 * l.length+14≤n):zG (pI n l):=by
 unfold pI;exact zG.bind (zJ h _) (zp _ _) fun _ r _ hr hl=>zG.bind (qK hr) (uB hr (by omega)) fun e r _ hr hl=>zG.bind (zJ hr _) (zp _ _) fun _ r _ hr hl=>trivial
theorem pTy_ends {l:List Tok} (h:zh l):zG (ug l):=by
 unfold ug;split
 · trivial
 · exact zG.bind (zJ h _) (zp _ _) fun _ r _ hr hl=>trivial
theorem kr {α:Type} {k:Nat} {l:List Tok} {x:PR α} (hf:zZ k l x) (h:zG x):zG (yZ x):=by
 unfold yZ;exact zG.bind hf h fun _ r _ hr hl=>zG.bind (zJ hr _) (zp _ _) fun _ r _ hr hl=>trivial
theorem pNm_ends {n:Nat} {l:List Tok} (h:zh l) (hn:20 * l.length+16≤n):zG (pNm n l):=by
 unfold pNm;refine zG.bind (qR h 1 (by decide)) (xa _ _) fun s r _ hr hl=>?_
 have ht:=qy hr;split
 · rename_i hs
   exact zG.bind (pA_fits (hr.sign hs)) (pA_ends (hr.sign hs) (by omega)) fun _ r _ hr hl=>trivial
 · split
   · rename_i hs
     exact zG.bind (qK (hr.sign hs)) (uB (hr.sign hs) (by omega)) fun e r _ hr hl=>zG.bind (zJ hr _) (zp _ _) fun _ r _ hr hl=>zG.bind (zJ hr _) (zp _ _) fun _ r _ hr hl=>zG.bind (qK hr) (uB hr (by omega)) fun _ r _ hr hl=>trivial
   · exact zG.bind (zJ hr _) (zp _ _) fun _ r _ hr hl=>zG.bind (qK hr) (uB hr (by omega)) fun _ r _ hr hl=>trivial
theorem ends_stmt (n:Nat):(∀ d l,zh l→20 * l.length+30≤n→zG (pS n d l))∧(∀ d e t l,zh l→20 * l.length+30≤n→zG (pEl n d e t l))∧(∀ d l,zh l→20 * l.length+30≤n→zG (pB n d l))∧(∀ d acc l,zh l→20 * l.length+31≤n→zG (pBL n d acc l)):=by
 induction n with
 | zero=>exact⟨fun _ _ _ _=>by omega,fun _ _ _ _ _ _=>by omega,fun _ _ _ _=>by omega,fun _ _ _ _ _=>by omega⟩
 | succ n ih=>
   obtain⟨iS,iEl,iB,iBL⟩:=ih;refine⟨fun d l h hn=>?_,fun d e t l h hn=>?_,fun d l h hn=>?_,fun d acc l h hn=>?_⟩
   · rw[pS]
     have ht:=qy h;split
     · trivial
     · split
       · exact kr ((kh h).bind (m:=0) (n:=0) (fun t r _ hr=>(qR hr 1 (by decide)).bind (n:=0) (fun s r _ hr=>(zJ hr _).bind (n:=0) (fun _ r _ hr=>(qK hr).bind (n:=0) (fun _ r _ hr=>zZ.self hr _) (by omega)) (by omega)) (by omega)) (by omega))
          (zG.bind (kh h) (pTy_ends h) fun t r _ hr hl=>zG.bind (qR hr 1 (by decide)) (xa _ _) fun s r _ hr hl=>zG.bind (zJ hr _) (zp _ _) fun _ r _ hr hl=>zG.bind (qK hr) (uB hr (by omega)) fun _ r _ hr hl=>trivial)
       · split
         · rename_i hs
           exact zG.bind (xW (h.sign hs)) (pI_ends (h.sign hs) (by omega)) fun e r _ hr hl=>zG.bind (uA hr) (iB _ _ hr (by omega)) fun t r _ hr hl=>iEl _ _ _ _ hr (by omega)
         · split
           · rename_i hs
             exact zG.bind (xW (h.sign hs)) (pI_ends (h.sign hs) (by omega)) fun e r _ hr hl=>zG.bind (uA hr) (iB _ _ hr (by omega)) fun t r _ hr hl=>trivial
           · split
             · rename_i hs
               exact kr (k:=1) (l:=l) (show zH 1 l l.tail from zH.sign h hs) trivial
             · split
               · rename_i hs
                 exact kr (k:=1) (l:=l) (show zH 1 l l.tail from zH.sign h hs) trivial
               · split
                 · rename_i hs
                   exact kr ((qK (h.sign hs)).bind (n:=0) (m:=0) (fun _ r _ hr=>zZ.self hr _) (by omega)) (zG.bind (qK (h.sign hs)) (uB (h.sign hs) (by omega)) fun _ r _ hr hl=>trivial)
                 · split
                   · rename_i hs
                     exact kr ((xW (h.sign hs)).bind (n:=0) (m:=0) (fun _ r _ hr=>zZ.self hr _) (by omega)) (zG.bind (xW (h.sign hs)) (pI_ends (h.sign hs) (by omega)) fun _ r _ hr hl=>trivial)
                   · exact kr (pNm_fits h) (pNm_ends h (by omega))
   · rw[pEl]
     have ht:=qy h;split
     · rename_i hs
       exact zG.bind (uA (h.sign hs)) (iB _ _ (h.sign hs) (by omega)) fun _ r _ hr hl=>trivial
     · trivial
   · rw[pB]
     exact zG.bind (zJ h _) (zp _ _) fun _ r _ hr hl=>iBL _ _ _ hr (by omega)
   · rw[pBL]
     split
     · trivial
     · exact zG.bind (pS_fits h) (iS _ _ h (by omega)) fun _ r _ hr hl=>iBL _ _ _ hr (by omega)
theorem pB_ends {n:Nat} {d:Int} {l:List Tok} (h:zh l) (hn:20 * l.length+30≤n):zG (pB n d l):=(ends_stmt n).2.2.1 d l h hn
theorem pPL_ends:∀ (n:Nat) (acc:List Pa) (l:List Tok),zh l→20 * l.length+1≤n→zG (pPL n acc l)
 | 0,_,_,_,_=>by omega
 | n+1,acc,l,h,hn=>by
   rw[pPL];refine zG.bind (kh h) (pTy_ends h) fun t r _ hr hl=>zG.bind (qR hr 1 (by decide)) (xa _ _) fun s r _ hr hl=>?_
   have ht:=qy hr;split
   · rename_i hs
     exact pPL_ends n _ _ (hr.sign hs) (by omega)
   · exact zG.bind (zJ hr _) (zp _ _) fun _ r _ hr hl=>trivial
theorem pPs_ends {n:Nat} {l:List Tok} (h:zh l) (hn:20 * l.length+1≤n):zG (pPs n l):=by
 unfold pPs;refine zG.bind (zJ h _) (zp _ _) fun _ r _ hr hl=>?_
 split
 · trivial
 · exact pPL_ends n _ _ hr (by omega)
theorem pFn_ends {n:Nat} {t:Int} {s:ByteArray} {l:List Tok} (h:zh l) (hn:20 * l.length+30≤n):zG (pFn n t s l):=by
 unfold pFn;exact zG.bind (pPs_fits h) (pPs_ends h (by omega)) fun _ r _ hr hl=>zG.bind (uA hr) (pB_ends hr (by omega)) fun _ r _ hr hl=>trivial
theorem pArr_ends {s:ByteArray} {l:List Tok} (h:zh l):zG (pArr s l):=by
 unfold pArr;exact zG.bind (qR h 0 (by decide)) (xa _ _) fun _ r _ hr hl=>zG.bind (zJ hr _) (zp _ _) fun _ r _ hr hl=>zG.bind (zJ hr _) (zp _ _) fun _ r _ hr hl=>trivial
theorem pPr_ends:∀ (n:Nat) (p:Pr) (l:List Tok),zh l→20 * l.length+40≤n→zG (ut n p l)
 | 0,_,_,_,_=>by omega
 | n+1,p,l,h,hn=>by
   rw[ut];split
   · trivial
   · refine zG.bind (kh h) (pTy_ends h) fun t r _ hr hl=>zG.bind (qR hr 1 (by decide)) (xa _ _) fun s r _ hr hl=>?_
     split
     · rename_i hs
       have ht:=qy hr;exact zG.bind (pArr_fits (hr.sign hs.2.2)) (pArr_ends (hr.sign hs.2.2)) fun _ r _ hr hl=>pPr_ends n _ _ hr (by omega)
     · exact zG.bind (vZ hr) (pFn_ends hr (by omega)) fun _ r _ hr hl=>pPr_ends n _ _ hr (by omega)
def jj (l:List Tok):PR Pr:=ut (20 * l.length+40) ⟨[],[]⟩ l
theorem xI {l:List Tok} (h:zh l):zG (jj l):=pPr_ends _ _ _ h Zr
def levels:List Int:=[1,2,3,4,5,6,7,8,9,10]
theorem dig_val {k:Nat} (h:k<10):(UInt8.ofNat (48+k)).toNat=48+k:=by
 rw[UInt8.toNat_ofNat'];omega
theorem decV_digits (u:Nat):j8 0 (Lib.decDigits u)=u:=by
 induction u using Nat.strongRecOn with
 | ind u ih=>
   rw[Lib.decDigits];split
   · rename_i h
     rw[decV_cons,vQ,dig_val h];omega
   · rename_i h
     rw[yS,ih (u / 10) (by omega),dig_val (by omega)];omega
end Go.Proofs.YtfghofifjnbicaaGreatDoor
