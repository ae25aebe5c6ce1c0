import Derived.Test.YtndgkfkieogplaaDoorAgTokMath
set_option linter.unusedSimpArgs false
set_option linter.unusedVariables false
set_option maxRecDepth 100000
/- Programs out of tokens, as a plain function: the grammar, with what does not fit, and what stands too deep, at its place: no Go, no program. -/
namespace Go.Proofs.YtndgkfkieogplaaDoor
open Lib (hid)
open Go.RowKit
inductive PR (α:Type) where
 | ok (a:α) (r:List Tok)
 | bad (r:List Tok)
 | deep (r:List Tok)
 | out
def PR.bind {α β:Type} (x:PR α) (f:α→List Tok→PR β):PR β:=
 match x with
 | .ok a r=>f a r
 | .bad r=>.bad r
 | .deep r=>.deep r
 | .out=>.out
def z9 (s:List UInt8) (l:List Tok):Bool:=match l with | t :: _=>decide (t.kind=2) && t.text == s | []=>false
def yQ (l:List Tok):Int:=match l with | t :: _=>t.kind | []=>3
def hdT (l:List Tok):List UInt8:=match l with | t :: _=>t.text | []=>[]
def zI (s:List UInt8) (l:List Tok):PR Unit:=if z9 s l then .ok () l.tail else .bad l
def zy (k:Int) (l:List Tok):PR ByteArray:=if yQ l=k then .ok ⟨(hdT l).toArray⟩ l.tail else .bad l
def yC (op:Int):List UInt8:=(xK op).data.toList
def jI (lev:Int) (l:List Tok):List Int→Int
 | []=>0
 | op :: r=>if z7 op=lev∧z9 (yC op) l=true then op else jI lev l r
def um:List Int:=[1,2,3,4,5,6,7,8,9,10,11,12,13,14,15,16,17,18,19]
def ones:List Int:=[20,21,22,23,24,25,26,27,28]
def opAt (lev:Int) (l:List Tok):Int:=jI lev l um
def qy (l:List Tok):List Int→Int
 | []=>0
 | op :: r=>if z9 (yC op) l=true then op else qy l r
def vP (l:List Tok):Int:=qy l ones
def bE:ByteArray:=⟨#[]⟩
def uo:List UInt8:=[116,114,117,101]
def vQ:List UInt8:=[102,97,108,115,101]
def uZ:List UInt8:=[114,101,97,100]
def x8:List UInt8:=[105,110,116]
def jf:List UInt8:=[98,111,111,108]
def sIf:List UInt8:=[105,102]
def yD:List UInt8:=[101,108,115,101]
def kH:List UInt8:=[119,104,105,108,101]
def xd:List UInt8:=[98,114,101,97,107]
def u6:List UInt8:=[99,111,110,116,105,110,117,101]
def sRet:List UInt8:=[114,101,116,117,114,110]
def yN:List UInt8:=[112,114,105,110,116]
mutual
def pE:Nat→Int→Int→List Tok→PR Ex
 | 0,_,_,_=>.out
 | n+1,lev,d,l=>if 10<lev then pU n d l else (pE n (lev+1) d l).bind fun a r=>pL n lev d a r
def pL:Nat→Int→Int→Ex→List Tok→PR Ex
 | 0,_,_,_,_=>.out
 | n+1,lev,d,a,l=>if opAt lev l=0 then .ok a l else (pE n (lev+1) d l.tail).bind fun b r=>pL n lev d (.mk 5 (opAt lev l) 0 bE [a,b]) r
def pU:Nat→Int→List Tok→PR Ex
 | 0,_,_=>.out
 | n+1,d,l=>
   if 100<d then .deep l
   else if vP l=0 then pP n d l
   else if 23≤vP l then (zI [40] l.tail).bind fun _ r=>(pE n 1 (d+1) r).bind fun e r=>(zI [41] r).bind fun _ r=>.ok (.mk 4 (vP l) 0 bE [e]) r
   else (pU n (d+1) l.tail).bind fun e r=>.ok (.mk 4 (vP l) 0 bE [e]) r
def pP:Nat→Int→List Tok→PR Ex
 | 0,_,_=>.out
 | n+1,d,l=>
   if z9 [40] l=true then (pE n 1 (d+1) l.tail).bind fun e r=>(zI [41] r).bind fun _ r=>.ok e r
   else if z9 uo l=true then .ok (.mk 2 0 1 bE []) l.tail
   else if z9 vQ l=true then .ok (.mk 2 0 0 bE []) l.tail
   else if z9 uZ l=true then (zI [40] l.tail).bind fun _ r=>(zI [41] r).bind fun _ r=>.ok (.mk 8 0 0 bE []) r
   else if yQ l=0 then .ok (.mk 1 0 (jH 0 (hdT l)) bE []) l.tail
   else (zy 1 l).bind fun s r=>pN n d s r
def pN:Nat→Int→ByteArray→List Tok→PR Ex
 | 0,_,_,_=>.out
 | n+1,d,s,l=>
   if z9 [40] l=true then (pA n (d+1) l.tail).bind fun es r=>.ok (.mk 7 0 0 s es) r
   else if z9 [91] l=true then (pE n 1 (d+1) l.tail).bind fun e r=>(zI [93] r).bind fun _ r=>.ok (.mk 6 0 0 s [e]) r
   else .ok (.mk 3 0 0 s []) l
def pA:Nat→Int→List Tok→PR (List Ex)
 | 0,_,_=>.out
 | n+1,d,l=>if z9 [41] l=true then .ok [] l.tail else yq n d [] l
def yq:Nat→Int→List Ex→List Tok→PR (List Ex)
 | 0,_,_,_=>.out
 | n+1,d,acc,l=>(pE n 1 d l).bind fun e r=>if z9 [44] r=true then yq n d (acc++[e]) r.tail else (zI [41] r).bind fun _ r=>.ok (acc++[e]) r
end
def pI (n:Nat) (l:List Tok):PR Ex:=(zI [40] l).bind fun _ r=>(pE n 1 1 r).bind fun e r=>(zI [41] r).bind fun _ r=>.ok e r
def yt (l:List Tok):PR Int:=if z9 x8 l=true then .ok 1 l.tail else (zI jf l).bind fun _ r=>.ok 2 r
def q9 {α:Type} (x:PR α):PR α:=x.bind fun a r=>(zI [59] r).bind fun _ r=>.ok a r
def pNm (n:Nat) (l:List Tok):PR St:=(zy 1 l).bind fun s r=>
 if z9 [40] r=true then (pA n 2 r.tail).bind fun es r=>.ok (.mk 10 0 bE [.mk 7 0 0 s es] [] []) r
 else if z9 [91] r=true then (pE n 1 1 r.tail).bind fun e r=>(zI [93] r).bind fun _ r=>(zI [61] r).bind fun _ r=>(pE n 1 1 r).bind fun f r=>.ok (.mk 3 0 s [e,f] [] []) r
 else (zI [61] r).bind fun _ r=>(pE n 1 1 r).bind fun e r=>.ok (.mk 2 0 s [e] [] []) r
mutual
def pS:Nat→Int→List Tok→PR St
 | 0,_,_=>.out
 | n+1,d,l=>
   if 100<d then .deep l
   else if z9 x8 l=true∨z9 jf l=true then q9 ((yt l).bind fun t r=>(zy 1 r).bind fun s r=>(zI [61] r).bind fun _ r=>(pE n 1 1 r).bind fun e r=>.ok (.mk 1 t s [e] [] []) r)
   else if z9 sIf l=true then (pI n l.tail).bind fun e r=>(pB n (d+1) r).bind fun t r=>vV n d e t r
   else if z9 kH l=true then (pI n l.tail).bind fun e r=>(pB n (d+1) r).bind fun t r=>.ok (.mk 5 0 bE [e] t []) r
   else if z9 xd l=true then q9 (.ok (.mk 6 0 bE [] [] []) l.tail)
   else if z9 u6 l=true then q9 (.ok (.mk 7 0 bE [] [] []) l.tail)
   else if z9 sRet l=true then q9 ((pE n 1 1 l.tail).bind fun e r=>.ok (.mk 8 0 bE [e] [] []) r)
   else if z9 yN l=true then q9 ((pI n l.tail).bind fun e r=>.ok (.mk 9 0 bE [e] [] []) r)
   else q9 (pNm n l)
def vV:Nat→Int→Ex→List St→List Tok→PR St
 | 0,_,_,_,_=>.out
 | n+1,d,e,t,l=>if z9 yD l=true then (pB n (d+1) l.tail).bind fun u r=>.ok (.mk 4 0 bE [e] t u) r else .ok (.mk 4 0 bE [e] t []) l
def pB:Nat→Int→List Tok→PR (List St)
 | 0,_,_=>.out
 | n+1,d,l=>(zI [123] l).bind fun _ r=>yd n d [] r
def yd:Nat→Int→List St→List Tok→PR (List St)
 | 0,_,_,_=>.out
 | n+1,d,acc,l=>if z9 [125] l=true then .ok acc l.tail else (pS n d l).bind fun s r=>yd n d (acc++[s]) r
end
def yr:Nat→List Pa→List Tok→PR (List Pa)
 | 0,_,_=>.out
 | n+1,acc,l=>(yt l).bind fun t r=>(zy 1 r).bind fun s r=>if z9 [44] r=true then yr n (acc++[⟨s,t⟩]) r.tail else (zI [41] r).bind fun _ r=>.ok (acc++[⟨s,t⟩]) r
def pPs (n:Nat) (l:List Tok):PR (List Pa):=(zI [40] l).bind fun _ r=>if z9 [41] r=true then .ok [] r.tail else yr n [] r
def uh (n:Nat) (t:Int) (s:ByteArray) (l:List Tok):PR Fu:=(pPs n l).bind fun ps r=>(pB n 1 r).bind fun b r=>.ok ⟨s,t,ps,b⟩ r
def vc (s:ByteArray) (l:List Tok):PR Ar:=(zy 0 l).bind fun t r=>(zI [93] r).bind fun _ r=>(zI [59] r).bind fun _ r=>.ok ⟨s,jH 0 t.data.toList⟩ r
def jg:Nat→Pr→List Tok→PR Pr
 | 0,_,_=>.out
 | n+1,p,l=>if yQ l=3 then .ok p l else (yt l).bind fun t r=>(zy 1 r).bind fun s r=>
    if t=1∧p.funcs=[]∧z9 [91] r=true then (vc s r.tail).bind fun a r=>jg n ⟨p.arrays++[a],p.funcs⟩ r
    else (uh n t s r).bind fun f r=>jg n ⟨p.arrays,p.funcs++[f]⟩ r
def zw (l:List Tok):Prop:=∃ i e,l=i++[e]∧e.kind=3∧∀ t ∈ i,t.kind≠3
theorem zw.ne {l:List Tok} (h:zw l):l≠[]:=by obtain⟨i,e,rfl,_⟩:=h;simp
theorem zw.pos {l:List Tok} (h:zw l):0<l.length:=List.length_pos_iff.2 h.ne
theorem zw.tail {l:List Tok} (h:zw l) (hk:yQ l≠3):zw l.tail:=by
 obtain⟨i,e,rfl,he,hi⟩:=h
 cases i with
 | nil=>exact absurd he hk
 | cons a i=>exact⟨i,e,rfl,he,fun t ht=>hi t (List.mem_cons_of_mem _ ht)⟩
theorem vd {s:List UInt8} {l:List Tok} (h:z9 s l=true):yQ l=2∧hdT l=s:=by
 cases l with
 | nil=>cases h
 | cons t r=>
   simp only[z9,Bool.and_eq_true,decide_eq_true_eq]at h
   exact⟨h.1,by simpa[hdT] using h.2⟩
theorem zw.sign {l:List Tok} (h:zw l) {s:List UInt8} (hs:z9 s l=true):zw l.tail:=h.tail (by rw[(vd hs).1];decide)
theorem jV {l:List Tok} (h:zw l):l.tail.length+1=l.length:=by
 have:=h.pos
 rw[List.length_tail]
 omega
theorem yw {lev:Int} {l:List Tok}:∀ {ops:List Int},jI lev l ops≠0→∃ s,z9 s l=true
 | [],h=>absurd rfl h
 | op :: r,h=>by
   rw[jI]at h
   split at h
   · rename_i hc
     exact⟨_,hc.2⟩
   · exact yw h
theorem uq {l:List Tok}:∀ {ops:List Int},qy l ops≠0→∃ s,z9 s l=true
 | [],h=>absurd rfl h
 | op :: r,h=>by
   rw[qy]at h
   split at h
   · rename_i hc
     exact⟨_,hc⟩
   · exact uq h
def zL (k:Nat) (l r:List Tok):Prop:=r <:+l∧zw r∧r.length+k≤l.length
def zg {α:Type} (k:Nat) (l:List Tok):PR α→Prop
 | .ok _ r=>zL k l r
 | .bad r=>zL 0 l r
 | .deep r=>zL 0 l r
 | .out=>True
theorem zL.self {l:List Tok} (h:zw l):zL 0 l l:=⟨List.suffix_refl _,h,Nat.le_refl _⟩
theorem zL.tail {l:List Tok} (h:zw l) (hk:yQ l≠3):zL 1 l l.tail:=⟨List.tail_suffix l,h.tail hk,by rw[jV h];exact Nat.le_refl _⟩
theorem zL.sign {l:List Tok} (h:zw l) {s:List UInt8} (hs:z9 s l=true):zL 1 l l.tail:=zL.tail h (by rw[(vd hs).1];decide)
theorem zL.trans {k m:Nat} {a b c:List Tok} (h:zL k a b) (g:zL m b c):zL (k+m) a c:=⟨g.1.trans h.1,g.2.1,by have:=h.2.2;have:=g.2.2;omega⟩
theorem zL.mono {k m:Nat} {a b:List Tok} (h:zL k a b) (hm:m≤k):zL m a b:=⟨h.1,h.2.1,by have:=h.2.2;omega⟩
theorem zg.mono {α:Type} {k m:Nat} {l:List Tok} {x:PR α} (h:zg k l x) (hm:m≤k):zg m l x:=by
 cases x with
 | ok a r=>exact zL.mono (show zL k l r from h) hm
 | bad r=>exact h
 | deep r=>exact h
 | out=>trivial
theorem zg.from {α:Type} {k m n:Nat} {l r:List Tok} {x:PR α} (h:zL m l r) (g:zg k r x) (hn:n≤m+k):zg n l x:=by
 cases x with
 | ok a t=>exact(h.trans (show zL k r t from g)).mono hn
 | bad t=>exact(h.trans (show zL 0 r t from g)).mono (Nat.zero_le _)
 | deep t=>exact(h.trans (show zL 0 r t from g)).mono (Nat.zero_le _)
 | out=>trivial
theorem zg.bind {α β:Type} {k m n:Nat} {l:List Tok} {x:PR α} {f:α→List Tok→PR β} (h:zg k l x) (g:∀ a r,x=.ok a r→zw r→zg m r (f a r)) (hn:n≤k+m):zg n l (x.bind f):=by
 cases x with
 | ok a r=>exact zg.from (show zL k l r from h) (g a r rfl (show zL k l r from h).2.1) hn
 | bad r=>exact h
 | deep r=>exact h
 | out=>trivial
theorem zg.self {α:Type} {l:List Tok} (h:zw l) (a:α):zg 0 l (.ok a l):=zL.self h
theorem zO {l:List Tok} (h:zw l) (s:List UInt8):zg 1 l (zI s l):=by
 unfold zI
 split
 · rename_i hs
   exact zL.sign h hs
 · exact zL.self h
theorem jA {l:List Tok} (h:zw l) (k:Int) (hk:k≠3):zg 1 l (zy k l):=by
 unfold zy
 split
 · rename_i hs
   exact zL.tail h (by rw[hs];exact hk)
 · exact zL.self h
theorem fits_expr (n:Nat):(∀ lev d l,zw l→zg 1 l (pE n lev d l))∧(∀ lev d a l,zw l→zg 0 l (pL n lev d a l))∧(∀ d l,zw l→zg 1 l (pU n d l))∧(∀ d l,zw l→zg 1 l (pP n d l))∧
 (∀ d s l,zw l→zg 0 l (pN n d s l))∧(∀ d l,zw l→zg 1 l (pA n d l))∧(∀ d acc l,zw l→zg 1 l (yq n d acc l)):=by
 induction n with
 | zero=>exact⟨fun _ _ _ _=>by rw[pE];trivial,fun _ _ _ _ _=>by rw[pL];trivial,fun _ _ _=>by rw[pU];trivial,fun _ _ _=>by rw[pP];trivial,fun _ _ _ _=>by rw[pN];trivial,fun _ _ _=>by rw[pA];trivial,fun _ _ _ _=>by rw[yq];trivial⟩
 | succ n ih=>
   obtain⟨iE,iL,iU,iP,iN,iA,iAL⟩:=ih
   refine⟨fun lev d l h=>?_,fun lev d a l h=>?_,fun d l h=>?_,fun d l h=>?_,fun d s l h=>?_,fun d l h=>?_,fun d acc l h=>?_⟩
   · rw[pE]
     split
     · exact iU d l h
     · exact(iE _ _ _ h).bind (fun a r _ hr=>iL _ _ _ _ hr) (by omega)
   · rw[pL]
     split
     · exact zg.self h _
     · rename_i ho
       obtain⟨s,hs⟩:=yw ho
       exact zg.from (zL.sign h hs) ((iE _ _ _ (h.sign hs)).bind (n:=1) (fun a r _ hr=>iL _ _ _ _ hr) (by omega)) (by omega)
   · rw[pU]
     split
     · exact zL.self h
     · split
       · exact iP d l h
       · rename_i ho
         obtain⟨s,hs⟩:=uq ho
         split
         · exact zg.from (zL.sign h hs) ((zO (h.sign hs) _).bind (n:=0) (fun _ r _ hr=>(iE _ _ _ hr).bind (n:=0) (fun e r _ hr=>(zO hr _).bind (n:=0) (fun _ r _ hr=>zg.self hr _) (by omega)) (by omega)) (by omega)) (by omega)
         · exact zg.from (zL.sign h hs) ((iU _ _ (h.sign hs)).bind (n:=0) (fun _ r _ hr=>zg.self hr _) (by omega)) (by omega)
   · rw[pP]
     split
     · rename_i hs
       exact zg.from (zL.sign h hs) ((iE _ _ _ (h.sign hs)).bind (n:=0) (fun e r _ hr=>(zO hr _).bind (n:=0) (fun _ r _ hr=>zg.self hr _) (by omega)) (by omega)) (by omega)
     · split
       · rename_i hs
         exact zL.sign h hs
       · split
         · rename_i hs
           exact zL.sign h hs
         · split
           · rename_i hs
             exact zg.from (zL.sign h hs) ((zO (h.sign hs) _).bind (n:=0) (fun _ r _ hr=>(zO hr _).bind (n:=0) (fun _ r _ hr=>zg.self hr _) (by omega)) (by omega)) (by omega)
           · split
             · rename_i hk
               exact zL.tail h (by rw[hk];decide)
             · exact(jA h 1 (by decide)).bind (fun s r _ hr=>iN _ _ _ hr) (by omega)
   · rw[pN]
     split
     · rename_i hs
       exact zg.from (zL.sign h hs) ((iA _ _ (h.sign hs)).bind (n:=0) (fun _ r _ hr=>zg.self hr _) (by omega)) (by omega)
     · split
       · rename_i hs
         exact zg.from (zL.sign h hs) ((iE _ _ _ (h.sign hs)).bind (n:=0) (fun e r _ hr=>(zO hr _).bind (n:=0) (fun _ r _ hr=>zg.self hr _) (by omega)) (by omega)) (by omega)
       · exact zg.self h _
   · rw[pA]
     split
     · rename_i hs
       exact zL.sign h hs
     · exact iAL _ _ _ h
   · rw[yq]
     refine(iE _ _ _ h).bind (m:=0) (fun e r _ hr=>?_) (by omega)
     split
     · rename_i hs
       exact zg.from (zL.sign hr hs) (iAL _ _ _ (hr.sign hs)) (by omega)
     · exact(zO hr _).bind (n:=0) (fun _ r _ hr=>zg.self hr _) (by omega)
theorem qZ {n:Nat} {lev d:Int} {l:List Tok} (h:zw l):zg 1 l (pE n lev d l):=(fits_expr n).1 lev d l h
theorem pA_fits {n:Nat} {d:Int} {l:List Tok} (h:zw l):zg 1 l (pA n d l):=(fits_expr n).2.2.2.2.2.1 d l h
theorem uG {n:Nat} {l:List Tok} (h:zw l):zg 1 l (pI n l):=by
 unfold pI
 exact(zO h _).bind (m:=0) (fun _ r _ hr=>(qZ hr).bind (n:=0) (fun e r _ hr=>(zO hr _).bind (n:=0) (fun _ r _ hr=>zg.self hr _) (by omega)) (by omega)) (by omega)
theorem ye {l:List Tok} (h:zw l):zg 1 l (yt l):=by
 unfold yt
 split
 · rename_i hs
   exact zL.sign h hs
 · exact(zO h _).bind (m:=0) (fun _ r _ hr=>zg.self hr _) (by omega)
theorem xe {α:Type} {k:Nat} {l:List Tok} {x:PR α} (h:zg k l x):zg k l (q9 x):=by
 unfold q9
 exact h.bind (m:=0) (fun _ r _ hr=>(zO hr _).bind (n:=0) (fun _ r _ hr=>zg.self hr _) (by omega)) (by omega)
theorem pNm_fits {n:Nat} {l:List Tok} (h:zw l):zg 1 l (pNm n l):=by
 unfold pNm
 refine(jA h 1 (by decide)).bind (m:=0) (fun s r _ hr=>?_) (by omega)
 split
 · rename_i hs
   exact zg.from (zL.sign hr hs) ((pA_fits (hr.sign hs)).bind (n:=0) (fun _ r _ hr=>zg.self hr _) (by omega)) (by omega)
 · split
   · rename_i hs
     exact zg.from (zL.sign hr hs) ((qZ (hr.sign hs)).bind (n:=0) (fun e r _ hr=>(zO hr _).bind (n:=0) (fun _ r _ hr=>(zO hr _).bind (n:=0) (fun _ r _ hr=>(qZ hr).bind (n:=0) (fun _ r _ hr=>zg.self hr _) (by omega)) (by omega)) (by omega)) (by omega)) (by omega)
   · exact(zO hr _).bind (n:=0) (fun _ r _ hr=>(qZ hr).bind (n:=0) (fun _ r _ hr=>zg.self hr _) (by omega)) (by omega)
theorem fits_stmt (n:Nat):(∀ d l,zw l→zg 1 l (pS n d l))∧(∀ d e t l,zw l→zg 0 l (vV n d e t l))∧(∀ d l,zw l→zg 1 l (pB n d l))∧(∀ d acc l,zw l→zg 1 l (yd n d acc l)):=by
 induction n with
 | zero=>exact⟨fun _ _ _=>by rw[pS];trivial,fun _ _ _ _ _=>by rw[vV];trivial,fun _ _ _=>by rw[pB];trivial,fun _ _ _ _=>by rw[yd];trivial⟩
 | succ n ih=>
   obtain⟨iS,iEl,iB,iBL⟩:=ih
   refine⟨fun d l h=>?_,fun d e t l h=>?_,fun d l h=>?_,fun d acc l h=>?_⟩
   · rw[pS]
     split
     · exact zL.self h
     · split
       · refine xe ((ye h).bind (m:=0) (fun t r _ hr=>(jA hr 1 (by decide)).bind (n:=0) (fun s r _ hr=>(zO hr _).bind (n:=0) (fun _ r _ hr=>(qZ hr).bind (n:=0) (fun _ r _ hr=>zg.self hr _) (by omega)) (by omega)) (by omega)) (by omega))
       · split
         · rename_i hs
           exact zg.from (zL.sign h hs) ((uG (h.sign hs)).bind (n:=0) (fun e r _ hr=>(iB _ _ hr).bind (n:=0) (fun t r _ hr=>iEl _ _ _ _ hr) (by omega)) (by omega)) (by omega)
         · split
           · rename_i hs
             exact zg.from (zL.sign h hs) ((uG (h.sign hs)).bind (n:=0) (fun e r _ hr=>(iB _ _ hr).bind (n:=0) (fun t r _ hr=>zg.self hr _) (by omega)) (by omega)) (by omega)
           · split
             · rename_i hs
               exact xe (show zL 1 l l.tail from zL.sign h hs)
             · split
               · rename_i hs
                 exact xe (show zL 1 l l.tail from zL.sign h hs)
               · split
                 · rename_i hs
                   exact xe (zg.from (zL.sign h hs) ((qZ (h.sign hs)).bind (n:=0) (fun _ r _ hr=>zg.self hr _) (by omega)) (by omega))
                 · split
                   · rename_i hs
                     exact xe (zg.from (zL.sign h hs) ((uG (h.sign hs)).bind (n:=0) (fun _ r _ hr=>zg.self hr _) (by omega)) (by omega))
                   · exact xe (pNm_fits h)
   · rw[vV]
     split
     · rename_i hs
       exact zg.from (zL.sign h hs) ((iB _ _ (h.sign hs)).bind (n:=0) (fun _ r _ hr=>zg.self hr _) (by omega)) (by omega)
     · exact zg.self h _
   · rw[pB]
     exact(zO h _).bind (m:=0) (fun _ r _ hr=>(iBL _ _ _ hr).mono (by omega)) (by omega)
   · rw[yd]
     split
     · rename_i hs
       exact zL.sign h hs
     · exact(iS _ _ h).bind (m:=0) (fun _ r _ hr=>(iBL _ _ _ hr).mono (by omega)) (by omega)
theorem pS_fits {n:Nat} {d:Int} {l:List Tok} (h:zw l):zg 1 l (pS n d l):=(fits_stmt n).1 d l h
theorem pB_fits {n:Nat} {d:Int} {l:List Tok} (h:zw l):zg 1 l (pB n d l):=(fits_stmt n).2.2.1 d l h
theorem pPL_fits:∀ (n:Nat) (acc:List Pa) (l:List Tok),zw l→zg 1 l (yr n acc l)
 | 0,_,_,_=>by rw[yr];trivial
 | n+1,acc,l,h=>by
   rw[yr]
   refine(ye h).bind (m:=0) (fun t r _ hr=>(jA hr 1 (by decide)).bind (m:=0) (fun s r _ hr=>?_) (by omega)) (by omega)
   split
   · rename_i hs
     exact zg.from (zL.sign hr hs) (pPL_fits n _ _ (hr.sign hs)) (by omega)
   · exact(zO hr _).bind (n:=0) (fun _ r _ hr=>zg.self hr _) (by omega)
theorem pPs_fits {n:Nat} {l:List Tok} (h:zw l):zg 1 l (pPs n l):=by
 unfold pPs
 refine(zO h _).bind (m:=0) (fun _ r _ hr=>?_) (by omega)
 split
 · rename_i hs
   exact(show zL 1 r r.tail from zL.sign hr hs).mono (by omega)
 · exact(pPL_fits n _ _ hr).mono (by omega)
theorem pFn_fits {n:Nat} {t:Int} {s:ByteArray} {l:List Tok} (h:zw l):zg 1 l (uh n t s l):=by
 unfold uh
 exact(pPs_fits h).bind (m:=0) (fun _ r _ hr=>(pB_fits hr).bind (n:=0) (fun _ r _ hr=>zg.self hr _) (by omega)) (by omega)
theorem pArr_fits {s:ByteArray} {l:List Tok} (h:zw l):zg 1 l (vc s l):=by
 unfold vc
 exact(jA h 0 (by decide)).bind (m:=0) (fun _ r _ hr=>(zO hr _).bind (n:=0) (fun _ r _ hr=>(zO hr _).bind (n:=0) (fun _ r _ hr=>zg.self hr _) (by omega)) (by omega)) (by omega)
def zG {α:Type} (x:PR α):Prop:=match x with | .out=>False | _=>True
theorem zG.bind {α β:Type} {k:Nat} {l:List Tok} {x:PR α} {f:α→List Tok→PR β} (hf:zg k l x) (h:zG x) (g:∀ a r,x=.ok a r→zw r→r.length+k≤l.length→zG (f a r)):zG (x.bind f):=by
 cases x with
 | ok a r=>exact g a r rfl (show zL k l r from hf).2.1 (show zL k l r from hf).2.2
 | bad r=>trivial
 | deep r=>trivial
 | out=>exact h
theorem qC (s:List UInt8) (l:List Tok):zG (zI s l):=by unfold zI;split <;> trivial
theorem yX (k:Int) (l:List Tok):zG (zy k l):=by unfold zy;split <;> trivial
theorem ends_expr (n:Nat):(∀ lev d l,zw l→1≤lev→lev≤11→20 * (l.length:Int)+15-lev≤n→zG (pE n lev d l))∧(∀ lev d a l,zw l→1≤lev→lev≤10→20 * (l.length:Int)+15-lev≤n→zG (pL n lev d a l))∧
 (∀ d l,zw l→20 * l.length+3≤n→zG (pU n d l))∧(∀ d l,zw l→20 * l.length+2≤n→zG (pP n d l))∧
 (∀ d s l,zw l→20 * l.length+1≤n→zG (pN n d s l))∧(∀ d l,zw l→20 * l.length+16≤n→zG (pA n d l))∧(∀ d acc l,zw l→20 * l.length+15≤n→zG (yq n d acc l)):=by
 induction n with
 | zero=>exact⟨fun _ _ _ _ _ _ _=>by omega,fun _ _ _ _ _ _ _ _=>by omega,fun _ _ _ _=>by omega,fun _ _ _ _=>by omega,fun _ _ _ _ _=>by omega,fun _ _ _ _=>by omega,fun _ _ _ _ _=>by omega⟩
 | succ n ih=>
   obtain⟨iE,iL,iU,iP,iN,iA,iAL⟩:=ih
   refine⟨fun lev d l h h1 h2 hn=>?_,fun lev d a l h h1 h2 hn=>?_,fun d l h hn=>?_,fun d l h hn=>?_,fun d s l h hn=>?_,fun d l h hn=>?_,fun d acc l h hn=>?_⟩
   · rw[pE]
     split
     · exact iU d l h (by omega)
     · exact zG.bind (qZ h) (iE _ _ _ h (by omega) (by omega) (by omega)) fun a r _ hr hl=>iL _ _ _ _ hr h1 (by omega) (by omega)
   · rw[pL]
     split
     · trivial
     · rename_i ho
       obtain⟨s,hs⟩:=yw ho
       have ht:=jV h
       exact zG.bind (qZ (h.sign hs)) (iE _ _ _ (h.sign hs) (by omega) (by omega) (by omega)) fun a r _ hr hl=>iL _ _ _ _ hr h1 h2 (by omega)
   · rw[pU]
     split
     · trivial
     · split
       · exact iP d l h (by omega)
       · rename_i ho
         obtain⟨s,hs⟩:=uq ho
         have ht:=jV h
         split
         · exact zG.bind (zO (h.sign hs) _) (qC _ _) fun _ r _ hr hl=>zG.bind (qZ hr) (iE _ _ _ hr (by omega) (by omega) (by omega)) fun e r _ hr hl=>zG.bind (zO hr _) (qC _ _) fun _ r _ hr hl=>trivial
         · exact zG.bind ((fits_expr n).2.2.1 _ _ (h.sign hs)) (iU _ _ (h.sign hs) (by omega)) fun _ r _ hr hl=>trivial
   · rw[pP]
     have ht:=jV h
     split
     · rename_i hs
       exact zG.bind (qZ (h.sign hs)) (iE _ _ _ (h.sign hs) (by omega) (by omega) (by omega)) fun e r _ hr hl=>zG.bind (zO hr _) (qC _ _) fun _ r _ hr hl=>trivial
     · split
       · trivial
       · split
         · trivial
         · split
           · rename_i hs
             exact zG.bind (zO (h.sign hs) _) (qC _ _) fun _ r _ hr hl=>zG.bind (zO hr _) (qC _ _) fun _ r _ hr hl=>trivial
           · split
             · trivial
             · exact zG.bind (jA h 1 (by decide)) (yX _ _) fun s r _ hr hl=>iN _ _ _ hr (by omega)
   · rw[pN]
     have ht:=jV h
     split
     · rename_i hs
       exact zG.bind (pA_fits (h.sign hs)) (iA _ _ (h.sign hs) (by omega)) fun _ r _ hr hl=>trivial
     · split
       · rename_i hs
         exact zG.bind (qZ (h.sign hs)) (iE _ _ _ (h.sign hs) (by omega) (by omega) (by omega)) fun e r _ hr hl=>zG.bind (zO hr _) (qC _ _) fun _ r _ hr hl=>trivial
       · trivial
   · rw[pA]
     split
     · trivial
     · exact iAL _ _ _ h (by omega)
   · rw[yq]
     refine zG.bind (qZ h) (iE _ _ _ h (by omega) (by omega) (by omega)) fun e r _ hr hl=>?_
     split
     · rename_i hs
       have ht:=jV hr
       exact iAL _ _ _ (hr.sign hs) (by omega)
     · exact zG.bind (zO hr _) (qC _ _) fun _ r _ hr hl=>trivial
theorem pE_ends {n:Nat} {d:Int} {l:List Tok} (h:zw l) (hn:20 * l.length+14≤n):zG (pE n 1 d l):=(ends_expr n).1 1 d l h (by omega) (by omega) (by omega)
theorem pA_ends {n:Nat} {d:Int} {l:List Tok} (h:zw l) (hn:20 * l.length+16≤n):zG (pA n d l):=(ends_expr n).2.2.2.2.2.1 d l h hn
theorem pI_ends {n:Nat} {l:List Tok} (h:zw l) (hn:20 * l.length+14≤n):zG (pI n l):=by
 unfold pI
 exact zG.bind (zO h _) (qC _ _) fun _ r _ hr hl=>zG.bind (qZ hr) (pE_ends hr (by omega)) fun e r _ hr hl=>zG.bind (zO hr _) (qC _ _) fun _ r _ hr hl=>trivial
theorem pTy_ends {l:List Tok} (h:zw l):zG (yt l):=by
 unfold yt
 split
 · trivial
 · exact zG.bind (zO h _) (qC _ _) fun _ r _ hr hl=>trivial
theorem xf {α:Type} {k:Nat} {l:List Tok} {x:PR α} (hf:zg k l x) (h:zG x):zG (q9 x):=by
 unfold q9
 exact zG.bind hf h fun _ r _ hr hl=>zG.bind (zO hr _) (qC _ _) fun _ r _ hr hl=>trivial
theorem pNm_ends {n:Nat} {l:List Tok} (h:zw l) (hn:20 * l.length+16≤n):zG (pNm n l):=by
 unfold pNm
 refine zG.bind (jA h 1 (by decide)) (yX _ _) fun s r _ hr hl=>?_
 have ht:=jV hr
 split
 · rename_i hs
   exact zG.bind (pA_fits (hr.sign hs)) (pA_ends (hr.sign hs) (by omega)) fun _ r _ hr hl=>trivial
 · split
   · rename_i hs
     exact zG.bind (qZ (hr.sign hs)) (pE_ends (hr.sign hs) (by omega)) fun e r _ hr hl=>zG.bind (zO hr _) (qC _ _) fun _ r _ hr hl=>zG.bind (zO hr _) (qC _ _) fun _ r _ hr hl=>zG.bind (qZ hr) (pE_ends hr (by omega)) fun _ r _ hr hl=>trivial
   · exact zG.bind (zO hr _) (qC _ _) fun _ r _ hr hl=>zG.bind (qZ hr) (pE_ends hr (by omega)) fun _ r _ hr hl=>trivial
theorem ends_stmt (n:Nat):(∀ d l,zw l→20 * l.length+30≤n→zG (pS n d l))∧(∀ d e t l,zw l→20 * l.length+30≤n→zG (vV n d e t l))∧(∀ d l,zw l→20 * l.length+30≤n→zG (pB n d l))∧(∀ d acc l,zw l→20 * l.length+31≤n→zG (yd n d acc l)):=by
 induction n with
 | zero=>exact⟨fun _ _ _ _=>by omega,fun _ _ _ _ _ _=>by omega,fun _ _ _ _=>by omega,fun _ _ _ _ _=>by omega⟩
 | succ n ih=>
   obtain⟨iS,iEl,iB,iBL⟩:=ih
   refine⟨fun d l h hn=>?_,fun d e t l h hn=>?_,fun d l h hn=>?_,fun d acc l h hn=>?_⟩
   · rw[pS]
     have ht:=jV h
     split
     · trivial
     · split
       · exact xf ((ye h).bind (m:=0) (n:=0) (fun t r _ hr=>(jA hr 1 (by decide)).bind (n:=0) (fun s r _ hr=>(zO hr _).bind (n:=0) (fun _ r _ hr=>(qZ hr).bind (n:=0) (fun _ r _ hr=>zg.self hr _) (by omega)) (by omega)) (by omega)) (by omega))
          (zG.bind (ye h) (pTy_ends h) fun t r _ hr hl=>zG.bind (jA hr 1 (by decide)) (yX _ _) fun s r _ hr hl=>zG.bind (zO hr _) (qC _ _) fun _ r _ hr hl=>zG.bind (qZ hr) (pE_ends hr (by omega)) fun _ r _ hr hl=>trivial)
       · split
         · rename_i hs
           exact zG.bind (uG (h.sign hs)) (pI_ends (h.sign hs) (by omega)) fun e r _ hr hl=>zG.bind (pB_fits hr) (iB _ _ hr (by omega)) fun t r _ hr hl=>iEl _ _ _ _ hr (by omega)
         · split
           · rename_i hs
             exact zG.bind (uG (h.sign hs)) (pI_ends (h.sign hs) (by omega)) fun e r _ hr hl=>zG.bind (pB_fits hr) (iB _ _ hr (by omega)) fun t r _ hr hl=>trivial
           · split
             · rename_i hs
               exact xf (k:=1) (l:=l) (show zL 1 l l.tail from zL.sign h hs) trivial
             · split
               · rename_i hs
                 exact xf (k:=1) (l:=l) (show zL 1 l l.tail from zL.sign h hs) trivial
               · split
                 · rename_i hs
                   exact xf ((qZ (h.sign hs)).bind (n:=0) (m:=0) (fun _ r _ hr=>zg.self hr _) (by omega)) (zG.bind (qZ (h.sign hs)) (pE_ends (h.sign hs) (by omega)) fun _ r _ hr hl=>trivial)
                 · split
                   · rename_i hs
                     exact xf ((uG (h.sign hs)).bind (n:=0) (m:=0) (fun _ r _ hr=>zg.self hr _) (by omega)) (zG.bind (uG (h.sign hs)) (pI_ends (h.sign hs) (by omega)) fun _ r _ hr hl=>trivial)
                   · exact xf (pNm_fits h) (pNm_ends h (by omega))
   · rw[vV]
     have ht:=jV h
     split
     · rename_i hs
       exact zG.bind (pB_fits (h.sign hs)) (iB _ _ (h.sign hs) (by omega)) fun _ r _ hr hl=>trivial
     · trivial
   · rw[pB]
     exact zG.bind (zO h _) (qC _ _) fun _ r _ hr hl=>iBL _ _ _ hr (by omega)
   · rw[yd]
     split
     · trivial
     · exact zG.bind (pS_fits h) (iS _ _ h (by omega)) fun _ r _ hr hl=>iBL _ _ _ hr (by omega)
theorem pB_ends {n:Nat} {d:Int} {l:List Tok} (h:zw l) (hn:20 * l.length+30≤n):zG (pB n d l):=(ends_stmt n).2.2.1 d l h hn
theorem pPL_ends:∀ (n:Nat) (acc:List Pa) (l:List Tok),zw l→20 * l.length+1≤n→zG (yr n acc l)
 | 0,_,_,_,_=>by omega
 | n+1,acc,l,h,hn=>by
   rw[yr]
   refine zG.bind (ye h) (pTy_ends h) fun t r _ hr hl=>zG.bind (jA hr 1 (by decide)) (yX _ _) fun s r _ hr hl=>?_
   have ht:=jV hr
   split
   · rename_i hs
     exact pPL_ends n _ _ (hr.sign hs) (by omega)
   · exact zG.bind (zO hr _) (qC _ _) fun _ r _ hr hl=>trivial
theorem pPs_ends {n:Nat} {l:List Tok} (h:zw l) (hn:20 * l.length+1≤n):zG (pPs n l):=by
 unfold pPs
 refine zG.bind (zO h _) (qC _ _) fun _ r _ hr hl=>?_
 split
 · trivial
 · exact pPL_ends n _ _ hr (by omega)
theorem pFn_ends {n:Nat} {t:Int} {s:ByteArray} {l:List Tok} (h:zw l) (hn:20 * l.length+30≤n):zG (uh n t s l):=by
 unfold uh
 exact zG.bind (pPs_fits h) (pPs_ends h (by omega)) fun _ r _ hr hl=>zG.bind (pB_fits hr) (pB_ends hr (by omega)) fun _ r _ hr hl=>trivial
theorem pArr_ends {s:ByteArray} {l:List Tok} (h:zw l):zG (vc s l):=by
 unfold vc
 exact zG.bind (jA h 0 (by decide)) (yX _ _) fun _ r _ hr hl=>zG.bind (zO hr _) (qC _ _) fun _ r _ hr hl=>zG.bind (zO hr _) (qC _ _) fun _ r _ hr hl=>trivial
theorem pPr_ends:∀ (n:Nat) (p:Pr) (l:List Tok),zw l→20 * l.length+40≤n→zG (jg n p l)
 | 0,_,_,_,_=>by omega
 | n+1,p,l,h,hn=>by
   rw[jg]
   split
   · trivial
   · refine zG.bind (ye h) (pTy_ends h) fun t r _ hr hl=>zG.bind (jA hr 1 (by decide)) (yX _ _) fun s r _ hr hl=>?_
     split
     · rename_i hs
       have ht:=jV hr
       exact zG.bind (pArr_fits (hr.sign hs.2.2)) (pArr_ends (hr.sign hs.2.2)) fun _ r _ hr hl=>pPr_ends n _ _ hr (by omega)
     · exact zG.bind (pFn_fits hr) (pFn_ends hr (by omega)) fun _ r _ hr hl=>pPr_ends n _ _ hr (by omega)
def qA (l:List Tok):PR Pr:=jg (20 * l.length+40) ⟨[],[]⟩ l
theorem xL {l:List Tok} (h:zw l):zG (qA l):=pPr_ends _ _ _ h (Nat.le_refl _)
end Go.Proofs.YtndgkfkieogplaaDoor
