import Derived.Test.YtfghofifjnbicaaGreatDoorAgTyMath
set_option linter.unusedSimpArgs false
set_option linter.unusedVariables false
set_option maxRecDepth 100000
/- With fuel enough the plain parser looks at all: no Go, no program. -/
namespace Go.Proofs.YtfghofifjnbicaaGreatDoor
open Lib (hid)
open Go.RowKit
def zG {α:Type} (x:PR α):Prop:=match x with | .out=>False | _=>True
theorem zG.bind {α β:Type} {k:Nat} {l:List Tok} {x:PR α} {f:α→List Tok→PR β} (hf:zZ k l x) (h:zG x) (g:∀ a r,x=.ok a r→ze r→r.length+k≤l.length→zG (f a r)):zG (x.bind f):=by
 cases x with
 | ok a r=>exact g a r rfl (show zH k l r from hf).2.1 (show zH k l r from hf).2.2
 | bad r=>trivial
 | deep r=>trivial
 | out=>exact h
theorem zt (s:List UInt8) (l:List Tok):zG (zL s l):=by unfold zL;split <;> trivial
theorem xX (k:Int) (l:List Tok):zG (qQ k l):=by unfold qQ;split <;> trivial
theorem ends_expr (n:Nat):(∀ lev d l,ze l→1≤lev→lev≤11→20 * (l.length:Int)+15-lev≤n→zG (pE n lev d l))∧(∀ lev d a l,ze l→1≤lev→lev≤10→20 * (l.length:Int)+15-lev≤n→zG (pL n lev d a l))∧
 (∀ d l,ze l→20 * l.length+3≤n→zG (pU n d l))∧(∀ d l,ze l→20 * l.length+2≤n→zG (pP n d l))∧
 (∀ d s l,ze l→20 * l.length+1≤n→zG (pN n d s l))∧(∀ d l,ze l→20 * l.length+16≤n→zG (pA n d l))∧(∀ d acc l,ze l→20 * l.length+15≤n→zG (pAL n d acc l)):=by
 induction n with
 | zero=>exact⟨fun _ _ _ _ _ _ _=>by omega,fun _ _ _ _ _ _ _ _=>by omega,fun _ _ _ _=>by omega,fun _ _ _ _=>by omega,fun _ _ _ _ _=>by omega,fun _ _ _ _=>by omega,fun _ _ _ _ _=>by omega⟩
 | succ n ih=>
   obtain⟨iE,iL,iU,iP,iN,iA,iAL⟩:=ih;refine⟨fun lev d l h h1 h2 hn=>?_,fun lev d a l h h1 h2 hn=>?_,fun d l h hn=>?_,fun d l h hn=>?_,fun d s l h hn=>?_,fun d l h hn=>?_,fun d acc l h hn=>?_⟩
   · rw[pE]
     split
     · exact iU d l h (by omega)
     · exact zG.bind (qR h) (iE _ _ _ h (by omega) (by omega) (by omega)) fun a r _ hr hl=>iL _ _ _ _ hr h1 (by omega) (by omega)
   · rw[pL]
     split
     · trivial
     · rename_i ho
       obtain⟨s,hs⟩:=xq ho;have ht:=jD h;exact zG.bind (qR (h.sign hs)) (iE _ _ _ (h.sign hs) (by omega) (by omega) (by omega)) fun a r _ hr hl=>iL _ _ _ _ hr h1 h2 (by omega)
   · rw[pU]
     split
     · trivial
     · split
       · exact iP d l h (by omega)
       · rename_i ho
         obtain⟨s,hs⟩:=vJ ho;have ht:=jD h;split
         · exact zG.bind (zJ (h.sign hs) _) (zt _ _) fun _ r _ hr hl=>zG.bind (qR hr) (iE _ _ _ hr (by omega) (by omega) (by omega)) fun e r _ hr hl=>zG.bind (zJ hr _) (zt _ _) fun _ r _ hr hl=>trivial
         · exact zG.bind ((fits_expr n).2.2.1 _ _ (h.sign hs)) (iU _ _ (h.sign hs) (by omega)) fun _ r _ hr hl=>trivial
   · rw[pP]
     have ht:=jD h;split
     · rename_i hs
       exact zG.bind (qR (h.sign hs)) (iE _ _ _ (h.sign hs) (by omega) (by omega) (by omega)) fun e r _ hr hl=>zG.bind (zJ hr _) (zt _ _) fun _ r _ hr hl=>trivial
     · split
       · trivial
       · split
         · trivial
         · split
           · rename_i hs
             exact zG.bind (zJ (h.sign hs) _) (zt _ _) fun _ r _ hr hl=>zG.bind (zJ hr _) (zt _ _) fun _ r _ hr hl=>trivial
           · split
             · trivial
             · exact zG.bind (qZ h 1 (by decide)) (xX _ _) fun s r _ hr hl=>iN _ _ _ hr (by omega)
   · rw[pN]
     have ht:=jD h;split
     · rename_i hs
       exact zG.bind (pA_fits (h.sign hs)) (iA _ _ (h.sign hs) (by omega)) fun _ r _ hr hl=>trivial
     · split
       · rename_i hs
         exact zG.bind (qR (h.sign hs)) (iE _ _ _ (h.sign hs) (by omega) (by omega) (by omega)) fun e r _ hr hl=>zG.bind (zJ hr _) (zt _ _) fun _ r _ hr hl=>trivial
       · trivial
   · rw[pA]
     split
     · trivial
     · exact iAL _ _ _ h (by omega)
   · rw[pAL]
     refine zG.bind (qR h) (iE _ _ _ h (by omega) (by omega) (by omega)) fun e r _ hr hl=>?_
     split
     · rename_i hs
       have ht:=jD hr;exact iAL _ _ _ (hr.sign hs) (by omega)
     · exact zG.bind (zJ hr _) (zt _ _) fun _ r _ hr hl=>trivial
theorem vj {n:Nat} {d:Int} {l:List Tok} (h:ze l) (hn:20 * l.length+14≤n):zG (pE n 1 d l):=(ends_expr n).1 1 d l h (by omega) (by omega) (by omega)
theorem pA_ends {n:Nat} {d:Int} {l:List Tok} (h:ze l) (hn:20 * l.length+16≤n):zG (pA n d l):=(ends_expr n).2.2.2.2.2.1 d l h hn
theorem pI_ends {n:Nat} {l:List Tok} (h:ze l) (hn:20 * l.length+14≤n):zG (pI n l):=by
 unfold pI;exact zG.bind (zJ h _) (zt _ _) fun _ r _ hr hl=>zG.bind (qR hr) (vj hr (by omega)) fun e r _ hr hl=>zG.bind (zJ hr _) (zt _ _) fun _ r _ hr hl=>trivial
theorem pTy_ends {l:List Tok} (h:ze l):zG (uO l):=by
 unfold uO;split
 · trivial
 · exact zG.bind (zJ h _) (zt _ _) fun _ r _ hr hl=>trivial
theorem kj {α:Type} {k:Nat} {l:List Tok} {x:PR α} (hf:zZ k l x) (h:zG x):zG (yQ x):=by
 unfold yQ;exact zG.bind hf h fun _ r _ hr hl=>zG.bind (zJ hr _) (zt _ _) fun _ r _ hr hl=>trivial
theorem pNm_ends {n:Nat} {l:List Tok} (h:ze l) (hn:20 * l.length+16≤n):zG (pNm n l):=by
 unfold pNm;refine zG.bind (qZ h 1 (by decide)) (xX _ _) fun s r _ hr hl=>?_
 have ht:=jD hr;split
 · rename_i hs
   exact zG.bind (pA_fits (hr.sign hs)) (pA_ends (hr.sign hs) (by omega)) fun _ r _ hr hl=>trivial
 · split
   · rename_i hs
     exact zG.bind (qR (hr.sign hs)) (vj (hr.sign hs) (by omega)) fun e r _ hr hl=>zG.bind (zJ hr _) (zt _ _) fun _ r _ hr hl=>zG.bind (zJ hr _) (zt _ _) fun _ r _ hr hl=>zG.bind (qR hr) (vj hr (by omega)) fun _ r _ hr hl=>trivial
   · exact zG.bind (zJ hr _) (zt _ _) fun _ r _ hr hl=>zG.bind (qR hr) (vj hr (by omega)) fun _ r _ hr hl=>trivial
theorem ends_stmt (n:Nat):(∀ d l,ze l→20 * l.length+30≤n→zG (pS n d l))∧(∀ d e t l,ze l→20 * l.length+30≤n→zG (pEl n d e t l))∧(∀ d l,ze l→20 * l.length+30≤n→zG (pB n d l))∧(∀ d acc l,ze l→20 * l.length+31≤n→zG (pBL n d acc l)):=by
 induction n with
 | zero=>exact⟨fun _ _ _ _=>by omega,fun _ _ _ _ _ _=>by omega,fun _ _ _ _=>by omega,fun _ _ _ _ _=>by omega⟩
 | succ n ih=>
   obtain⟨iS,iEl,iB,iBL⟩:=ih;refine⟨fun d l h hn=>?_,fun d e t l h hn=>?_,fun d l h hn=>?_,fun d acc l h hn=>?_⟩
   · rw[pS]
     have ht:=jD h;split
     · trivial
     · split
       · exact kj ((kU h).bind (m:=0) (n:=0) (fun t r _ hr=>(qZ hr 1 (by decide)).bind (n:=0) (fun s r _ hr=>(zJ hr _).bind (n:=0) (fun _ r _ hr=>(qR hr).bind (n:=0) (fun _ r _ hr=>zZ.self hr _) (by omega)) (by omega)) (by omega)) (by omega))
          (zG.bind (kU h) (pTy_ends h) fun t r _ hr hl=>zG.bind (qZ hr 1 (by decide)) (xX _ _) fun s r _ hr hl=>zG.bind (zJ hr _) (zt _ _) fun _ r _ hr hl=>zG.bind (qR hr) (vj hr (by omega)) fun _ r _ hr hl=>trivial)
       · split
         · rename_i hs
           exact zG.bind (xQ (h.sign hs)) (pI_ends (h.sign hs) (by omega)) fun e r _ hr hl=>zG.bind (vi hr) (iB _ _ hr (by omega)) fun t r _ hr hl=>iEl _ _ _ _ hr (by omega)
         · split
           · rename_i hs
             exact zG.bind (xQ (h.sign hs)) (pI_ends (h.sign hs) (by omega)) fun e r _ hr hl=>zG.bind (vi hr) (iB _ _ hr (by omega)) fun t r _ hr hl=>trivial
           · split
             · rename_i hs
               exact kj (k:=1) (l:=l) (show zH 1 l l.tail from zH.sign h hs) trivial
             · split
               · rename_i hs
                 exact kj (k:=1) (l:=l) (show zH 1 l l.tail from zH.sign h hs) trivial
               · split
                 · rename_i hs
                   exact kj ((qR (h.sign hs)).bind (n:=0) (m:=0) (fun _ r _ hr=>zZ.self hr _) (by omega)) (zG.bind (qR (h.sign hs)) (vj (h.sign hs) (by omega)) fun _ r _ hr hl=>trivial)
                 · split
                   · rename_i hs
                     exact kj ((xQ (h.sign hs)).bind (n:=0) (m:=0) (fun _ r _ hr=>zZ.self hr _) (by omega)) (zG.bind (xQ (h.sign hs)) (pI_ends (h.sign hs) (by omega)) fun _ r _ hr hl=>trivial)
                   · exact kj (pNm_fits h) (pNm_ends h (by omega))
   · rw[pEl]
     have ht:=jD h;split
     · rename_i hs
       exact zG.bind (vi (h.sign hs)) (iB _ _ (h.sign hs) (by omega)) fun _ r _ hr hl=>trivial
     · trivial
   · rw[pB]
     exact zG.bind (zJ h _) (zt _ _) fun _ r _ hr hl=>iBL _ _ _ hr (by omega)
   · rw[pBL]
     split
     · trivial
     · exact zG.bind (pS_fits h) (iS _ _ h (by omega)) fun _ r _ hr hl=>iBL _ _ _ hr (by omega)
theorem pB_ends {n:Nat} {d:Int} {l:List Tok} (h:ze l) (hn:20 * l.length+30≤n):zG (pB n d l):=(ends_stmt n).2.2.1 d l h hn
theorem pPL_ends:∀ (n:Nat) (acc:List Pa) (l:List Tok),ze l→20 * l.length+1≤n→zG (pPL n acc l)
 | 0,_,_,_,_=>by omega
 | n+1,acc,l,h,hn=>by
   rw[pPL];refine zG.bind (kU h) (pTy_ends h) fun t r _ hr hl=>zG.bind (qZ hr 1 (by decide)) (xX _ _) fun s r _ hr hl=>?_
   have ht:=jD hr;split
   · rename_i hs
     exact pPL_ends n _ _ (hr.sign hs) (by omega)
   · exact zG.bind (zJ hr _) (zt _ _) fun _ r _ hr hl=>trivial
theorem pPs_ends {n:Nat} {l:List Tok} (h:ze l) (hn:20 * l.length+1≤n):zG (pPs n l):=by
 unfold pPs;refine zG.bind (zJ h _) (zt _ _) fun _ r _ hr hl=>?_
 split
 · trivial
 · exact pPL_ends n _ _ hr (by omega)
theorem pFn_ends {n:Nat} {t:Int} {s:ByteArray} {l:List Tok} (h:ze l) (hn:20 * l.length+30≤n):zG (pFn n t s l):=by
 unfold pFn;exact zG.bind (pPs_fits h) (pPs_ends h (by omega)) fun _ r _ hr hl=>zG.bind (vi hr) (pB_ends hr (by omega)) fun _ r _ hr hl=>trivial
theorem pArr_ends {s:ByteArray} {l:List Tok} (h:ze l):zG (pArr s l):=by
 unfold pArr;exact zG.bind (qZ h 0 (by decide)) (xX _ _) fun _ r _ hr hl=>zG.bind (zJ hr _) (zt _ _) fun _ r _ hr hl=>zG.bind (zJ hr _) (zt _ _) fun _ r _ hr hl=>trivial
theorem pPr_ends:∀ (n:Nat) (p:Pr) (l:List Tok),ze l→20 * l.length+40≤n→zG (u7 n p l)
 | 0,_,_,_,_=>by omega
 | n+1,p,l,h,hn=>by
   rw[u7];split
   · trivial
   · refine zG.bind (kU h) (pTy_ends h) fun t r _ hr hl=>zG.bind (qZ hr 1 (by decide)) (xX _ _) fun s r _ hr hl=>?_
     split
     · rename_i hs
       have ht:=jD hr;exact zG.bind (pArr_fits (hr.sign hs.2.2)) (pArr_ends (hr.sign hs.2.2)) fun _ r _ hr hl=>pPr_ends n _ _ hr (by omega)
     · exact zG.bind (vK hr) (pFn_ends hr (by omega)) fun _ r _ hr hl=>pPr_ends n _ _ hr (by omega)
def jj (l:List Tok):PR Pr:=u7 (20 * l.length+40) ⟨[],[]⟩ l
theorem xA {l:List Tok} (h:ze l):zG (jj l):=pPr_ends _ _ _ h (Nat.le_refl _)
def Ev {α:Type} (f:Nat→PR α) (x:PR α):Prop:=∃ N,∀ n,N≤n→f n=x
theorem Ev.succ {α:Type} {f:Nat→PR α} {x:PR α} (h:Ev (fun n=>f (n+1)) x):Ev f x:=by
 obtain⟨N,h⟩:=h;refine⟨N+1,fun n hn=>?_⟩;obtain⟨k,rfl⟩:∃ k,n=k+1:=⟨n-1,by omega⟩
 exact h k (by omega)
theorem Ev.bind {α β:Type} {f:Nat→PR α} {a:α} {r:List Tok} {g:Nat→α→List Tok→PR β} {x:PR β} (h:Ev f (.ok a r)) (k:Ev (fun n=>g n a r) x):Ev (fun n=>(f n).bind (g n)) x:=by
 obtain⟨N,h⟩:=h;obtain⟨M,k⟩:=k;refine⟨N+M,fun n hn=>?_⟩;show (f n).bind (g n)=x;rw[h n (by omega)];exact k n (by omega)
theorem Ev.congr {α:Type} {f g:Nat→PR α} {x:PR α} (h:Ev g x) (e:∀ n,f n=g n):Ev f x:=by
 obtain⟨N,h⟩:=h;exact⟨N,fun n hn=>(e n).trans (h n hn)⟩
def levels:List Int:=[1,2,3,4,5,6,7,8,9,10]
def Low (lev:Int) (r:List Tok):Prop:=(∀ l,lev≤l→1≤l→l≤10→opAt l r=0)∧z6 [40] r=false∧z6 [91] r=false
theorem Low.mono {a b:Int} {r:List Tok} (h:Low a r) (hab:a≤b):Low b r:=⟨fun l h1=>h.1 l (by omega),h.2⟩
theorem dig_val {k:Nat} (h:k<10):(UInt8.ofNat (48+k)).toNat=48+k:=by
 rw[UInt8.toNat_ofNat'];omega
theorem decV_digits (u:Nat):jU 0 (Lib.decDigits u)=u:=by
 induction u using Nat.strongRecOn with
 | ind u ih=>
   rw[Lib.decDigits];split
   · rename_i h
     rw[decV_cons,yx,dig_val h];omega
   · rename_i h
     rw[yL,ih (u / 10) (by omega),dig_val (by omega)];omega
end Go.Proofs.YtfghofifjnbicaaGreatDoor
