import Derived.Test.YtjadgpiafjdnfaaGreatDoorAoTokLeaf
import Derived.StillTailTactics
import Derived.Deep.RegionHeld3
import Derived.Deep.RegionLaw
import Derived.BigQuiet
set_option linter.unusedSimpArgs false
set_option linter.unusedVariables false
set_option maxRecDepth 100000
namespace Go.Proofs.YtjadgpiafjdnfaaGreatDoor
open Go.RowKit Tryz
theorem Oi{p:Prop}(h:p:=by
 exact zn.from (zJ.sign b f) ((g _ _ _ (b.sign f)).bind (n:=0) (fun e r _ c=>(zM c _).bind (n:=0) (fun _ r _ c=>zn.self c _) O) O) O):p:=h
theorem Oj{p:Prop}(h:p:=by
 exact zI.bind (jC (b.sign f)) (j _ _ _ (b.sign f) O O O) fun e r _ c g=>zI.bind (zM c _) (qT _ _) fun _ r _ c g=>trivial):p:=h
theorem Ok{p:Prop}(h:p:=by
 go_enter func74,ntmps74;go_wp2
 go_quiet ((go_at_call 47;exact Calls.quiet_of_same (qM (i.o _) false rfl)))
 go_wp2;go_ret
 exact⟨rfl,_,rfl⟩):p:=h
theorem Ol{p:Prop}(h:p:=by
 exact yM (k:=1) (l:=l) (show zJ 1 l l.tail from zJ.sign b c) trivial):p:=h
def k2(B:Nat)(w:C7)(e:Ex)(x:C8):Prop:=∃v,x=.agg #[(e.kind:Int),(e.op:Int),(e.n:Int),e.name,v]/\fS e.n/\kW B w v e.args
theorem k2.below{B a:Nat}{w w':C7}{e:Ex}{x:C8}(b:k2 B w e x)(d:Below B w w')(c:B<=a):k2 a w' e x:=by
 obtain⟨v,i,f,g⟩:=b;exact⟨v,i,f,g.below d c⟩
theorem vu(B:Nat)(w:C7):kW B w (.slice none 0 0) []:=⟨none,0,rfl,D1 _,fun h=>absurd h Uu⟩
theorem CM(B:Nat)(w:C7):f6 B w (.slice none 0 0) []:=⟨none,0,rfl,D1 _,fun h=>absurd h Uu⟩
theorem CN(B:Nat)(w:C7):gN B w (.slice none 0 0) []:=⟨none,0,rfl,D1 _,fun h=>absurd h Uu⟩
theorem vN{w:C7}{b:Nat}{a:Array C8}{T:TypeId}{fr:Nat×Nat}{B:Nat}(e:w.heap[b]?=some (.cells a T fr))(d:b<B)(j:Nat)(c:C8)(f:a[j]?=some c):fK B w b j c:=⟨d,(Dv e j).trans f⟩
theorem IK{w:C7}{b B:Nat}{a:Array C8}{T:TypeId}{fr:Nat×Nat}(d:w.heap[b]?=some (.cells a T fr))(c:b<B)(o:Nat){k op n:Int}{td:C6}{tc:List Ex}{v:C8}(l:fS n)(m:kW B w v tc)
 (e:a[o]?=some (.int .i64 k)) (f:a[o+1]?=some (.int .i64 op)) (g:a[o+2]?=some (.int .i64 n)) (i:a[o+3]?=some (.string td)) (j:a[o+4]?=some v):z9 B w (.mk k op n td tc) b o:=by
 rw[z9];exact⟨vN d c _ _ e,vN d c _ _ f,vN d c _ _ g,vN d c _ _ i,l,v,vN d c _ _ j,m⟩
theorem XF{w:C7}{b B:Nat}{k op n:Int}{td:C6}{tc:List Ex}{v:C8}{T:TypeId}{fr:Nat×Nat}(c:w.heap[b]?=some (.cells #[(k:Int),(op:Int),(n:Int),td,v] T fr))(a:b<B)(d:fS n)(e:kW B w v tc):
 kW B w (.slice (some ⟨b,0,none⟩) 1 1) [.mk k op n td tc]:=by
 refine⟨_,1,rfl,Uu,fun _=>⟨b,0,rfl,?_⟩⟩;rw[kM,kM];exact⟨IK c a 0 d e rfl rfl rfl rfl rfl,trivial⟩
theorem K2{w:C7}{b B:Nat}{k op n f i a:Int}{td g:C6}{tc c:List Ex}{v v':C8}{T:TypeId}{fr:Nat×Nat}
 (e:w.heap[b]?=some (.cells #[(k:Int),(op:Int),(n:Int),td,v,(f:Int),(i:Int),(a:Int),g,v'] T fr)) (d:b<B) (j:fS n) (m:kW B w v tc) (l:fS a) (o:kW B w v' c):
 kW B w (.slice (some ⟨b,0,none⟩) 2 2) [.mk k op n td tc,.mk f i a g c]:=by
 refine⟨_,2,rfl,Uu,fun _=>⟨b,0,rfl,?_⟩⟩;rw[kM,kM,kM];exact⟨IK e d 0 j m rfl rfl rfl rfl rfl,IK e d 5 l o rfl rfl rfl rfl rfl,trivial⟩
theorem zA(w:C7)(o:Obj):(w.alloc o).heap.size=w.heap.size+1:=Uu
theorem xC(w:C7)(a:Addr)(u:C8):(w.setCell a u).heap.size=w.heap.size:=Uu
def g2(w:C7)(b:Nat)(a c d e f:C8):C7:=((((w.setCell (b,0) a).setCell (b,1) c).setCell (b,2) d).setCell (b,3) e).setCell (b,4) f
theorem xg(w:C7)(b:Nat)(a c d e f:C8):(g2 w b a c d e f).heap.size=w.heap.size:=by simp[g2]
theorem l9{w:C7}{b:Nat}{g i j k l:C8}{T:TypeId}{fr:Nat×Nat}(m:w.heap[b]?=some (.cells #[g,i,j,k,l] T fr))(a c d e f:C8):(g2 w b a c d e f).heap[b]?=some (.cells #[a,c,d,e,f] T fr):=
 D4 (D4 (D4 (D4 (D4 m a) c) d) e) f
def Is(w:C7)(g:Nat)(t:TypeId)(a:Array C8):Prop:=w.heap[g]?=some (.cells a t (0,0))
theorem Is.cell{w:C7}{g:Nat}{t:TypeId}{a:Array C8}(b:Is w g t a)(i:Nat):w.cell? (g,i)=a[i]?:=cell_of_row w g i a t (0,0) b
theorem Is.frozen{w:C7}{g:Nat}{t:TypeId}{b:Array C8}(a:Is w g t b)(i:Nat):w.frozen? (g,i)=false:=by
 unfold Is at a;simp[World.frozen?,a]
theorem Is.lt{w:C7}{g:Nat}{t:TypeId}{a:Array C8}(b:Is w g t a):g<w.heap.size:=(Array.getElem?_eq_some_iff.1 b).1
theorem Is.below{w w':C7}{g:Nat}{t:TypeId}{a:Array C8}{B:Nat}(b:Is w g t a)(c:Below B w w')(d:g<B):Is w' g t a:=(c.block g d).trans b
theorem Is.set{w:C7}{g:Nat}{t:TypeId}{a:Array C8}(b:Is w g t a)(i:Nat)(c:C8):Is (w.setCell (g,i) c) g t (a.setIfInBounds i c):=by
 unfold Is at b ⊢;simp[World.setCell,Array.getElem?_modify,b]
section
variable {a w:C7}{g:Nat}
end
def jR(a:List fH):List C8:=a.flatMap fun t=>[.int .i64 t.kind,.string ⟨t.text.toArray⟩,.int .i64 (t.line:Int)]
theorem lF(a:List fH)(t:fH):jR (a++[t])=jR a++[.int .i64 t.kind,.string ⟨t.text.toArray⟩,.int .i64 (t.line:Int)]:=by simp[jR]
def uJ(w:C7)(B:Nat)(v:C8)(a:List fH):Prop:=w.ownsRow B 76 3 v a.length (jR a)
theorem zR{w w':C7}{B:Nat}{e:TypeId}{b n:Nat}{v:C8}{c:List C8}(a:w.ownsRow B e b v n c)(o:∀k,v.ownBlock=some k->w'.heap[k]?=w.heap[k]?):w'.ownsRow B e b v n c:=by
 refine⟨a.1,?_⟩;rcases a.2 with i|⟨g,d,f,rfl,j,l,m⟩
 .exact .inl i
 .exact .inr ⟨g,d,f,rfl,j,(o g rfl).trans l,m⟩
theorem zU{w:C7}{B:Nat}{e:TypeId}{f n:Nat}{v:C8}{i:List C8}(b:w.ownsRow B e f v n i):∀k,v.ownBlock=some k->k<w.heap.size/\B<=k:=by
 intro k a;rcases b.2 with⟨rfl,_⟩|⟨g,_,_,rfl,c,d,_⟩
 .cases a
 .injection a with a
  subst a;exact⟨(Array.getElem?_eq_some_iff.1 d).1,c⟩
theorem zZ{w:C7}{B:Nat}{e:TypeId}{f n:Nat}{v:C8}{i:List C8}(d:w.ownsRow B e f v n i):∃a c,v=.slice a n c:=by
 rcases d.2 with⟨rfl,rfl⟩|⟨g,b,_,rfl,_⟩
 .exact⟨none,0,rfl⟩
 .exact⟨_,b,rfl⟩
theorem uK{w:C7}{B:Nat}{e t:TypeId}{j n:Nat}{v:C8}{k:List C8}{g:Nat}{c:Array C8}(d:w.ownsRow B e j v n k)(f:Is w g t c)(i:e≠t):v.ownBlock≠some g:=by
 rcases d.2 with⟨rfl,_⟩|⟨_,_,_,rfl,_,a,_⟩
 .simp[Value.ownBlock]
 .intro b
  injection b with b;subst b;rw[f]at a;injection a with a;injection a with _ a;exact i a.symm
theorem qS{w w':C7}{B C:Nat}{e:TypeId}{b n:Nat}{v:C8}{c:List C8}(a:w.ownsRow B e b v n c)(f:Below C w w')(d:w.heap.size<=C):w'.ownsRow B e b v n c:=
 zR a fun k g=>f.block k (Yb (zU a k g).1 d)
theorem E1:(Tryz.prog.info? 76).map (fun i=>(i.zero,i.size,i.bytes))=some (some (.agg #[(0:Int),.string ⟨#[]⟩,(0:Int)]),3,32):=by kernel_rfl
inductive PR (α:Type) where
 |ok (a:α) (r:List fH)
 |bad (r:List fH)
 |deep (r:List fH)
 |o
def PR.bind{α β:Type}(x:PR α)(f:α->List fH->PR β):PR β:=
 match x with
 |.ok a r=>f a r
 |.bad r=>.bad r
 |.deep r=>.deep r
 |.o=>.o
def zr(s:List UInt8)(l:List fH):Bool:=match l with|t::_=>decide (t.kind=2)&&t.text == s | []=>false
def gW(l:List fH):Int:=match l with|t::_=>t.kind | []=>3
def pZ(l:List fH):List UInt8:=match l with|t::_=>t.text | []=>[]
def zO(s:List UInt8)(l:List fH):PR Unit:=if zr s l then .ok () l.tail else .bad l
def qt(k:Int)(l:List fH):PR C6:=if gW l=k then .ok ⟨(pZ l).toArray⟩ l.tail else .bad l
def p0(op:Int):List UInt8:=(xP op).data.toList
def xY(lev:Int)(l:List fH):List Int->Int
 |[]=>0
 |op::r=>if kG op=lev/\zr (p0 op) l=true then op else xY lev l r
def IL:List Int:=[1,2,3,4,5,6,7,8,9,10,11,12,13,14,15,16,17,18,19]
def M7:List Int:=[20,21,22,23,24,25,26,27,28]
def E3(lev:Int)(l:List fH):Int:=xY lev l IL
def xt(l:List fH):List Int->Int
 |[]=>0
 |op::r=>if zr (p0 op) l=true then op else xt l r
def p1(l:List fH):Int:=xt l M7
def bE:C6:=⟨#[]⟩
def hJ:List UInt8:=[116,114,117,101]
def uL:List UInt8:=[102,97,108,115,101]
def mA:List UInt8:=[114,101,97,100]
def k3:List UInt8:=[105,110,116]
def xR:List UInt8:=[98,111,111,108]
def M8:List UInt8:=[105,102]
def AA:List UInt8:=[101,108,115,101]
def vO:List UInt8:=[119,104,105,108,101]
def hK:List UInt8:=[98,114,101,97,107]
def rY:List UInt8:=[99,111,110,116,105,110,117,101]
def E5:List UInt8:=[114,101,116,117,114,110]
def lM:List UInt8:=[112,114,105,110,116]
mutual
def pE:Nat->Int->Int->List fH->PR Ex
 |0,_,_,_=>.o
 |n+1,lev,d,l=>if 10<lev then pU n d l else(pE n (lev+1) d l).bind fun a r=>pL n lev d a r
def pL:Nat->Int->Int->Ex->List fH->PR Ex
 |0,_,_,_,_=>.o
 |n+1,lev,d,a,l=>if E3 lev l=0 then .ok a l else(pE n (lev+1) d l.tail).bind fun b r=>pL n lev d (.mk 5 (E3 lev l) 0 bE [a,b]) r
def pU:Nat->Int->List fH->PR Ex
 |0,_,_=>.o
 |n+1,d,l=>
   if 100<d then .deep l
   else if p1 l=0 then pP n d l
   else if 23<=p1 l then(zO [40] l.tail).bind fun _ r=>(pE n 1 (d+1) r).bind fun e r=>(zO [41] r).bind fun _ r=>.ok (.mk 4 (p1 l) 0 bE [e]) r
   else(pU n (d+1) l.tail).bind fun e r=>.ok (.mk 4 (p1 l) 0 bE [e]) r
def pP:Nat->Int->List fH->PR Ex
 |0,_,_=>.o
 |n+1,d,l=>
   if zr [40] l=true then(pE n 1 (d+1) l.tail).bind fun e r=>(zO [41] r).bind fun _ r=>.ok e r
   else if zr hJ l=true then .ok (.mk 2 0 1 bE []) l.tail
   else if zr uL l=true then .ok (.mk 2 0 0 bE []) l.tail
   else if zr mA l=true then(zO [40] l.tail).bind fun _ r=>(zO [41] r).bind fun _ r=>.ok (.mk 8 0 0 bE []) r
   else if gW l=0 then .ok (.mk 1 0 (kT 0 (pZ l)) bE []) l.tail
   else(qt 1 l).bind fun s r=>pN n d s r
def pN:Nat->Int->C6->List fH->PR Ex
 |0,_,_,_=>.o
 |n+1,d,s,l=>
   if zr [40] l=true then(pA n (d+1) l.tail).bind fun a r=>.ok (.mk 7 0 0 s a) r
   else if zr [91] l=true then(pE n 1 (d+1) l.tail).bind fun e r=>(zO [93] r).bind fun _ r=>.ok (.mk 6 0 0 s [e]) r
   else .ok (.mk 3 0 0 s []) l
def pA:Nat->Int->List fH->PR (List Ex)
 |0,_,_=>.o
 |n+1,d,l=>if zr [41] l=true then .ok [] l.tail else rZ n d [] l
def rZ:Nat->Int->List Ex->List fH->PR (List Ex)
 |0,_,_,_=>.o
 |n+1,d,tk,l=>(pE n 1 d l).bind fun e r=>if zr [44] r=true then rZ n d (tk++[e]) r.tail else(zO [41] r).bind fun _ r=>.ok (tk++[e]) r
end
def pI(n:Nat)(l:List fH):PR Ex:=(zO [40] l).bind fun _ r=>(pE n 1 1 r).bind fun e r=>(zO [41] r).bind fun _ r=>.ok e r
def k4(l:List fH):PR Int:=if zr k3 l=true then .ok 1 l.tail else(zO xR l).bind fun _ r=>.ok 2 r
def vP{α:Type}(x:PR α):PR α:=x.bind fun a r=>(zO [59] r).bind fun _ r=>.ok a r
def q8(n:Nat)(l:List fH):PR St:=(qt 1 l).bind fun s r=>
 if zr [40] r=true then(pA n 2 r.tail).bind fun a r=>.ok (.mk 10 0 bE [.mk 7 0 0 s a] [] []) r
 else if zr [91] r=true then(pE n 1 1 r.tail).bind fun e r=>(zO [93] r).bind fun _ r=>(zO [61] r).bind fun _ r=>(pE n 1 1 r).bind fun f r=>.ok (.mk 3 0 s [e,f] [] []) r
 else(zO [61] r).bind fun _ r=>(pE n 1 1 r).bind fun e r=>.ok (.mk 2 0 s [e] [] []) r
mutual
def pS:Nat->Int->List fH->PR St
 |0,_,_=>.o
 |n+1,d,l=>
   if 100<d then .deep l
   else if zr k3 l=true\/zr xR l=true then vP ((k4 l).bind fun t r=>(qt 1 r).bind fun s r=>(zO [61] r).bind fun _ r=>(pE n 1 1 r).bind fun e r=>.ok (.mk 1 t s [e] [] []) r)
   else if zr M8 l=true then(pI n l.tail).bind fun e r=>(pB n (d+1) r).bind fun t r=>rA n d e t r
   else if zr vO l=true then(pI n l.tail).bind fun e r=>(pB n (d+1) r).bind fun t r=>.ok (.mk 5 0 bE [e] t []) r
   else if zr hK l=true then vP (.ok (.mk 6 0 bE [] [] []) l.tail)
   else if zr rY l=true then vP (.ok (.mk 7 0 bE [] [] []) l.tail)
   else if zr E5 l=true then vP ((pE n 1 1 l.tail).bind fun e r=>.ok (.mk 8 0 bE [e] [] []) r)
   else if zr lM l=true then vP ((pI n l.tail).bind fun e r=>.ok (.mk 9 0 bE [e] [] []) r)
   else vP (q8 n l)
def rA:Nat->Int->Ex->List St->List fH->PR St
 |0,_,_,_,_=>.o
 |n+1,d,e,t,l=>if zr AA l=true then(pB n (d+1) l.tail).bind fun u r=>.ok (.mk 4 0 bE [e] t u) r else .ok (.mk 4 0 bE [e] t []) l
def pB:Nat->Int->List fH->PR (List St)
 |0,_,_=>.o
 |n+1,d,l=>(zO [123] l).bind fun _ r=>nP n d [] r
def nP:Nat->Int->List St->List fH->PR (List St)
 |0,_,_,_=>.o
 |n+1,d,tk,l=>if zr [125] l=true then .ok tk l.tail else(pS n d l).bind fun s r=>nP n d (tk++[s]) r
end
def p2:Nat->List Pa->List fH->PR (List Pa)
 |0,_,_=>.o
 |n+1,tk,l=>(k4 l).bind fun t r=>(qt 1 r).bind fun s r=>if zr [44] r=true then p2 n (tk++[⟨s,t⟩]) r.tail else(zO [41] r).bind fun _ r=>.ok (tk++[⟨s,t⟩]) r
def XG(n:Nat)(l:List fH):PR (List Pa):=(zO [40] l).bind fun _ r=>if zr [41] r=true then .ok [] r.tail else p2 n [] r
def o9(n:Nat)(t:Int)(s:C6)(l:List fH):PR Fu:=(XG n l).bind fun ps r=>(pB n 1 r).bind fun b r=>.ok ⟨s,t,ps,b⟩ r
def p3(s:C6)(l:List fH):PR Ar:=(qt 0 l).bind fun t r=>(zO [93] r).bind fun _ r=>(zO [59] r).bind fun _ r=>.ok ⟨s,kT 0 t.data.toList⟩ r
def k5:Nat->Pr->List fH->PR Pr
 |0,_,_=>.o
 |n+1,p,l=>if gW l=3 then .ok p l else(k4 l).bind fun t r=>(qt 1 r).bind fun s r=>
    if t=1/\p.funcs=[]/\zr [91] r=true then(p3 s r.tail).bind fun a r=>k5 n ⟨p.wa++[a],p.funcs⟩ r
    else(o9 n t s r).bind fun f r=>k5 n ⟨p.wa,p.funcs++[f]⟩ r
def qD(l:List fH):Prop:=∃i e,l=i++[e]/\e.kind=3/\∀t∈i,t.kind≠3
theorem qD.ne{l:List fH}(h:qD l):l≠[]:=by obtain⟨i,e,rfl,_⟩:=h;simp
theorem qD.pos{l:List fH}(h:qD l):0<l.length:=List.length_pos_iff.2 h.ne
theorem qD.tail{l:List fH}(c:qD l)(f:gW l≠3):qD l.tail:=by
 obtain⟨i,e,rfl,b,d⟩:=c;cases i with
 |nil=>exact absurd b f
 |cons a i=>exact⟨i,e,rfl,b,fun t g=>d t (Y7 _ g)⟩
theorem uS{s:List UInt8}{l:List fH}(h:zr s l=true):gW l=2/\pZ l=s:=by
 cases l with
 |nil=>cases h
 |cons t r=>
   simp only[zr,D3,decide_eq_true_eq]at h;exact⟨h.1,by simpa[pZ]using h.2⟩
theorem qD.sign{l:List fH}(a:qD l){s:List UInt8}(b:zr s l=true):qD l.tail:=a.tail (by rw[(uS b).1];decide)
theorem jq{l:List fH}(h:qD l):l.tail.length+1=l.length:=by
 have:=h.pos;rw[List.length_tail];omega
theorem vw{lev:Int}{l:List fH}:∀{ops:List Int},xY lev l ops≠0->∃s,zr s l=true
 |[],h=>absurd rfl h
 | op::r,h=>by
   rw[xY]at h;split at h
   .rename_i a
    exact⟨_,a.2⟩
   .exact vw h
theorem hM{l:List fH}:∀{ops:List Int},xt l ops≠0->∃s,zr s l=true
 |[],h=>absurd rfl h
 | op::r,h=>by
   rw[xt]at h;split at h
   .rename_i a
    exact⟨_,a⟩
   .exact hM h
def zJ(k:Nat)(l r:List fH):Prop:=r <:+l/\qD r/\r.length+k<=l.length
def zn{α:Type}(k:Nat)(l:List fH):PR α->Prop
 |.ok _ r=>zJ k l r
 |.bad r=>zJ 0 l r
 |.deep r=>zJ 0 l r
 |.o=>True
theorem zJ.self{l:List fH}(h:qD l):zJ 0 l l:=⟨List.suffix_refl _,h,Dz _⟩
theorem zJ.tail{l:List fH}(a:qD l)(b:gW l≠3):zJ 1 l l.tail:=⟨List.tail_suffix l,a.tail b,by rw[jq a];exact Dz _⟩
theorem zJ.sign{l:List fH}(a:qD l){s:List UInt8}(b:zr s l=true):zJ 1 l l.tail:=zJ.tail a (by rw[(uS b).1];decide)
theorem zJ.trans{k m:Nat}{a b c:List fH}(h:zJ k a b)(g:zJ m b c):zJ (k+m) a c:=⟨g.1.trans h.1,g.2.1,by have:=h.2.2;have:=g.2.2;omega⟩
theorem zJ.mono{k m:Nat}{a b:List fH}(h:zJ k a b)(_:m<=k):zJ m a b:=⟨h.1,h.2.1,by have:=h.2.2;omega⟩
theorem zn.mono{α:Type}{k m:Nat}{l:List fH}{x:PR α}(b:zn k l x)(c:m<=k):zn m l x:=by
 cases x with
 |ok a r=>exact zJ.mono (show zJ k l r from b) c
 |bad r=>exact b
 |deep r=>exact b
 |o=>trivial
theorem zn.from{α:Type}{k m n:Nat}{l r:List fH}{x:PR α}(b:zJ m l r)(g:zn k r x)(c:n<=m+k):zn n l x:=by
 cases x with
 |ok a t=>exact(b.trans (show zJ k r t from g)).mono c
 |bad t=>exact(b.trans (show zJ 0 r t from g)).mono (D1 _)
 |deep t=>exact(b.trans (show zJ 0 r t from g)).mono (D1 _)
 |o=>trivial
theorem zn.bind{α β:Type}{k m n:Nat}{l:List fH}{x:PR α}{f:α->List fH->PR β}(b:zn k l x)(g:∀a r,x=.ok a r->qD r->zn m r (f a r))(c:n<=k+m):zn n l (x.bind f):=by
 cases x with
 |ok a r=>exact zn.from (show zJ k l r from b) (g a r rfl (show zJ k l r from b).2.1) c
 |bad r=>exact b
 |deep r=>exact b
 |o=>trivial
theorem zn.self{α:Type}{l:List fH}(h:qD l)(a:α):zn 0 l (.ok a l):=zJ.self h
theorem zM{l:List fH}(a:qD l)(s:List UInt8):zn 1 l (zO s l):=by
 unfold zO;split
 .rename_i b
  exact zJ.sign a b
 .exact zJ.self a
theorem jJ{l:List fH}(a:qD l)(k:Int)(b:k≠3):zn 1 l (qt k l):=by
 unfold qt;split
 .rename_i c
  exact zJ.tail a (by rw[c];exact b)
 .exact zJ.self a
theorem nX(n:Nat):(∀lev d l,qD l->zn 1 l (pE n lev d l))/\(∀lev d a l,qD l->zn 0 l (pL n lev d a l))/\(∀d l,qD l->zn 1 l (pU n d l))/\(∀d l,qD l->zn 1 l (pP n d l))/\
 (∀d s l,qD l->zn 0 l (pN n d s l))/\(∀d l,qD l->zn 1 l (pA n d l))/\(∀d tk l,qD l->zn 1 l (rZ n d tk l)):=by
 induction n with
 |zero=>exact⟨fun _ _ _ _=>by rw[pE];trivial,fun _ _ _ _ _=>by rw[pL];trivial,fun _ _ _=>by rw[pU];trivial,fun _ _ _=>by rw[pP];trivial,fun _ _ _ _=>by rw[pN];trivial,fun _ _ _=>by rw[pA];trivial,fun _ _ _ _=>by rw[rZ];trivial⟩
 |succ n v=>
   obtain⟨g,k,o,u,t,q,j⟩:=v;refine⟨fun lev d l b=>?_,fun lev d a l b=>?_,fun d l b=>?_,fun d l b=>?_,fun d s l b=>?_,fun d l b=>?_,fun d tk l b=>?_⟩
   .rw[pE]
    split
    .exact o d l b
    .exact(g _ _ _ b).bind (fun a r _ c=>k _ _ _ _ c) O
   .rw[pL]
    split
    .exact zn.self b _
    .rename_i i
     obtain⟨s,f⟩:=vw i;exact zn.from (zJ.sign b f) ((g _ _ _ (b.sign f)).bind (n:=1) (fun a r _ c=>k _ _ _ _ c) O) O
   .rw[pU]
    split
    .exact zJ.self b
    .split
     .exact u d l b
     .rename_i i
      obtain⟨s,f⟩:=hM i;split
      .exact zn.from (zJ.sign b f) ((zM (b.sign f) _).bind (n:=0) (fun _ r _ c=>(g _ _ _ c).bind (n:=0) (fun e r _ c=>(zM c _).bind (n:=0) (fun _ r _ c=>zn.self c _) O) O) O) O
      .exact zn.from (zJ.sign b f) ((o _ _ (b.sign f)).bind (n:=0) (fun _ r _ c=>zn.self c _) O) O
   .rw[pP]
    split
    .rename_i f
     exact Oi
    .split
     .rename_i f
      exact zJ.sign b f
     .split
      .rename_i f
       exact zJ.sign b f
      .split
       .rename_i f
        exact zn.from (zJ.sign b f) ((zM (b.sign f) _).bind (n:=0) (fun _ r _ c=>(zM c _).bind (n:=0) (fun _ r _ c=>zn.self c _) O) O) O
       .split
        .rename_i p
         exact zJ.tail b (by rw[p];decide)
        .exact(jJ b 1 Us).bind (fun s r _ c=>t _ _ _ c) O
   .rw[pN]
    split
    .rename_i f
     exact zn.from (zJ.sign b f) ((q _ _ (b.sign f)).bind (n:=0) (fun _ r _ c=>zn.self c _) O) O
    .split
     .rename_i f
      exact Oi
     .exact zn.self b _
   .rw[pA]
    split
    .rename_i f
     exact zJ.sign b f
    .exact j _ _ _ b
   .rw[rZ]
    refine(g _ _ _ b).bind (m:=0) (fun e r _ c=>?_) O;split
    .rename_i f
     exact zn.from (zJ.sign c f) (j _ _ _ (c.sign f)) O
    .exact(zM c _).bind (n:=0) (fun _ r _ c=>zn.self c _) O
theorem jC{n:Nat}{lev d:Int}{l:List fH}(h:qD l):zn 1 l (pE n lev d l):=(nX n).1 lev d l h
theorem CQ{n:Nat}{d:Int}{l:List fH}(h:qD l):zn 1 l (pA n d l):=(nX n).2.2.2.2.2.1 d l h
theorem yx{n:Nat}{l:List fH}(b:qD l):zn 1 l (pI n l):=by
 unfold pI;exact(zM b _).bind (m:=0) (fun _ r _ a=>(jC a).bind (n:=0) (fun e r _ a=>(zM a _).bind (n:=0) (fun _ r _ a=>zn.self a _) O) O) O
theorem xu{l:List fH}(a:qD l):zn 1 l (k4 l):=by
 unfold k4;split
 .rename_i c
  exact zJ.sign a c
 .exact(zM a _).bind (m:=0) (fun _ r _ b=>zn.self b _) O
theorem yL{α:Type}{k:Nat}{l:List fH}{x:PR α}(b:zn k l x):zn k l (vP x):=by
 unfold vP;exact b.bind (m:=0) (fun _ r _ a=>(zM a _).bind (n:=0) (fun _ r _ a=>zn.self a _) O) O
theorem E6{n:Nat}{l:List fH}(c:qD l):zn 1 l (q8 n l):=by
 unfold q8;refine(jJ c 1 Us).bind (m:=0) (fun s r _ a=>?_) O;split
 .rename_i b
  exact zn.from (zJ.sign a b) ((CQ (a.sign b)).bind (n:=0) (fun _ r _ a=>zn.self a _) O) O
 .split
  .rename_i b
   exact zn.from (zJ.sign a b) ((jC (a.sign b)).bind (n:=0) (fun e r _ a=>(zM a _).bind (n:=0) (fun _ r _ a=>(zM a _).bind (n:=0) (fun _ r _ a=>(jC a).bind (n:=0) (fun _ r _ a=>zn.self a _) O) O) O) O) O
  .exact(zM a _).bind (n:=0) (fun _ r _ a=>(jC a).bind (n:=0) (fun _ r _ a=>zn.self a _) O) O
theorem AB(n:Nat):(∀d l,qD l->zn 1 l (pS n d l))/\(∀d e t l,qD l->zn 0 l (rA n d e t l))/\(∀d l,qD l->zn 1 l (pB n d l))/\(∀d tk l,qD l->zn 1 l (nP n d tk l)):=by
 induction n with
 |zero=>exact⟨fun _ _ _=>by rw[pS];trivial,fun _ _ _ _ _=>by rw[rA];trivial,fun _ _ _=>by rw[pB];trivial,fun _ _ _ _=>by rw[nP];trivial⟩
 |succ n k=>
   obtain⟨j,i,f,g⟩:=k;refine⟨fun d l b=>?_,fun d e t l b=>?_,fun d l b=>?_,fun d tk l b=>?_⟩
   .rw[pS]
    split
    .exact zJ.self b
    .split
     .refine yL ((xu b).bind (m:=0) (fun t r _ a=>(jJ a 1 Us).bind (n:=0) (fun s r _ a=>(zM a _).bind (n:=0) (fun _ r _ a=>(jC a).bind (n:=0) (fun _ r _ a=>zn.self a _) O) O) O) O)
     .split
      .rename_i c
       exact zn.from (zJ.sign b c) ((yx (b.sign c)).bind (n:=0) (fun e r _ a=>(f _ _ a).bind (n:=0) (fun t r _ a=>i _ _ _ _ a) O) O) O
      .split
       .rename_i c
        exact zn.from (zJ.sign b c) ((yx (b.sign c)).bind (n:=0) (fun e r _ a=>(f _ _ a).bind (n:=0) (fun t r _ a=>zn.self a _) O) O) O
       .split
        .rename_i c
         exact yL (show zJ 1 l l.tail from zJ.sign b c)
        .split
         .rename_i c
          exact yL (show zJ 1 l l.tail from zJ.sign b c)
         .split
          .rename_i c
           exact yL (zn.from (zJ.sign b c) ((jC (b.sign c)).bind (n:=0) (fun _ r _ a=>zn.self a _) O) O)
          .split
           .rename_i c
            exact yL (zn.from (zJ.sign b c) ((yx (b.sign c)).bind (n:=0) (fun _ r _ a=>zn.self a _) O) O)
           .exact yL (E6 b)
   .rw[rA]
    split
    .rename_i c
     exact zn.from (zJ.sign b c) ((f _ _ (b.sign c)).bind (n:=0) (fun _ r _ a=>zn.self a _) O) O
    .exact zn.self b _
   .rw[pB]
    exact(zM b _).bind (m:=0) (fun _ r _ a=>(g _ _ _ a).mono O) O
   .rw[nP]
    split
    .rename_i c
     exact zJ.sign b c
    .exact(j _ _ b).bind (m:=0) (fun _ r _ a=>(g _ _ _ a).mono O) O
theorem rB{n:Nat}{d:Int}{l:List fH}(h:qD l):zn 1 l (pS n d l):=(AB n).1 d l h
theorem iX{n:Nat}{d:Int}{l:List fH}(h:qD l):zn 1 l (pB n d l):=(AB n).2.2.1 d l h
theorem E7:∀(n:Nat) (tk:List Pa) (l:List fH),qD l->zn 1 l (p2 n tk l)
 |0,_,_,_=>by rw[p2];trivial
 | n+1,tk,l,h=>by
   rw[p2];refine(xu h).bind (m:=0) (fun t r _ a=>(jJ a 1 Us).bind (m:=0) (fun s r _ a=>?_) O) O;split
   .rename_i b
    exact zn.from (zJ.sign a b) (E7 n _ _ (a.sign b)) O
   .exact(zM a _).bind (n:=0) (fun _ r _ a=>zn.self a _) O
theorem r0{n:Nat}{l:List fH}(b:qD l):zn 1 l (XG n l):=by
 unfold XG;refine(zM b _).bind (m:=0) (fun _ r _ a=>?_) O;split
 .rename_i c
  exact(show zJ 1 r r.tail from zJ.sign a c).mono O
 .exact(E7 n _ _ a).mono O
theorem hN{n:Nat}{t:Int}{s:C6}{l:List fH}(b:qD l):zn 1 l (o9 n t s l):=by
 unfold o9;exact(r0 b).bind (m:=0) (fun _ r _ a=>(iX a).bind (n:=0) (fun _ r _ a=>zn.self a _) O) O
theorem AC{s:C6}{l:List fH}(b:qD l):zn 1 l (p3 s l):=by
 unfold p3;exact(jJ b 0 Us).bind (m:=0) (fun _ r _ a=>(zM a _).bind (n:=0) (fun _ r _ a=>(zM a _).bind (n:=0) (fun _ r _ a=>zn.self a _) O) O) O
def gR(b:Nat)(w:C7):C7:={ w with heap:=w.heap.setIfInBounds b (.cells #[] 0 (0,0)) }
theorem uT(b:Nat)(w:C7):(gR b w).heap.size=w.heap.size:=by simp[gR]
theorem uw{b k:Nat}(w:C7)(h:k≠b):(gR b w).heap[k]?=w.heap[k]?:=by
 simp only[gR,Array.getElem?_setIfInBounds];rw[Dp (fun e=>h e.symm)]
theorem IM{b:Nat}(w:C7):(gR b w).heap[b]?=if b<w.heap.size then some (.cells #[] 0 (0,0))else none:=by
 simp only[gR,Array.getElem?_setIfInBounds,if_true]
def fI(b B:Nat)(w w':C7):Prop:=Below B (gR b w) (gR b w')
theorem fI.mk'{b B:Nat}{w w':C7}(a:w'.os=w.os)(c:w'.tape=w.tape)(d:w'.output=w.output)(f:w.heap.size<=w'.heap.size)(i:b<w.heap.size)(g:∀k,k<B->k≠b->w'.heap[k]?=w.heap[k]?):fI b B w w':=by
 refine⟨a,c,d,by rw[uT,uT];exact f,fun k j=>?_⟩;by_cases e:k=b
 .subst e
  rw[IM,IM,Dq i,Dq O]
 .rw[uw w' e,uw w e]
  exact g k j e
theorem fI.refl(b B:Nat)(w:C7):fI b B w w:=D5 _ _
theorem fI.trans{b B:Nat}{w w' a:C7}(c:fI b B w w')(g:fI b B w' a):fI b B w a:=Below.trans c g
theorem fI.mono{b B a:Nat}{w w':C7}(c:fI b B w w')(d:a<=B):fI b a w w':=Below.mono c d
theorem fI.size{b B:Nat}{w w':C7}(h:fI b B w w'):w.heap.size<=w'.heap.size:=by have:=Below.size h;rw[uT,uT]at this;exact this
theorem fI.block{b B k:Nat}{w w':C7}(c:fI b B w w')(d:k<B)(a:k≠b):w'.heap[k]?=w.heap[k]?:=by have:=Below.block c k d;rw[uw w a,uw w' a]at this;exact this
theorem fI.cell{b B k o:Nat}{w w':C7}(a:fI b B w w')(d:k<B)(c:k≠b):w'.cell? (k,o)=w.cell? (k,o):=D6 (w:=w) (a.block d c)
theorem fI.wb{b B:Nat}{w w':C7}(a:Below B w w')(c:b<w.heap.size):fI b B w w':=fI.mk' a.os a.tape a.output a.size c fun k d _=>a.block k d
theorem fI.drewN{b B:Nat}{w w':C7}(h:fI b B w w')(n:Nat):fI b B w (w'.drewN n):=Below.trans h ⟨rfl,rfl,rfl,Dz _,fun _ _=>rfl⟩
theorem fI.alloc{b B:Nat}{w w':C7}(a:fI b B w w')(d:b<w'.heap.size)(c:B<=w'.heap.size)(o:Obj):fI b B w (w'.alloc o):=
 a.trans (fI.wb ((D5 B w').alloc c o) d)
theorem fI.wt{b B:Nat}{w w':C7}(c:fI b B w w')(d:b<w'.heap.size)(i:Nat)(a:C8):fI b B w (w'.setCell (b,i) a):=
 c.trans (fI.mk' rfl rfl rfl Ux d fun k _ e=>D0 w' _ a k e)
theorem fI.setCell{b B g:Nat}{w w':C7}(c:fI b B w w')(d:b<w'.heap.size)(_:B<=g)(i:Nat)(a:C8):fI b B w (w'.setCell (g,i) a):=
 c.trans (fI.mk' rfl rfl rfl Ux d fun k _ _=>D0 w' _ a k (by show k≠g;omega))
theorem fK.unhole{b B:Nat}{w:C7}{g o:Nat}{f:C8}(d:fK B (gR b w) g o f):fK B w g o f:=by
 refine⟨d.1,?_⟩;by_cases e:g=b
 .subst e
  have a:=d.2;unfold World.cell? at a;rw[show(gR g w).heap[(⟨g,o,none⟩:Addr).block]?=(gR g w).heap[g]? from rfl,IM]at a;split at a
  .rename_i c
   split at c
   .injection c with c
    injection c with i _ _;subst i;simp at a
   .cases c
  .cases a
 .rw[<-d.2]
  exact(D6 (w:=gR b w) (w':=w) (uw w e).symm)
def k6(b:Nat)(V:C8)(tj:List fH)(w:C7):Prop:=
 ∃(g c:Nat),V=.slice (some ⟨g,0,none⟩) tj.length c/\g≠b/\g<w.heap.size/\(∀(j:Nat) u,(jR tj)[j]?=some u->w.cell? (g,j)=some u)/\tj.length<=1000000/\∀t∈tj,t.kind=0->xM t.text=true/\(⟨t.text.toArray⟩:C6).size<=281474976710656
theorem k6.off{b:Nat}{V:C8}{tj:List fH}{w w':C7}(f:k6 b V tj w)(e:fI b w.heap.size w w'):k6 b V tj w':=by
 obtain⟨g,c,n,a,d,i,k,l⟩:=f;exact⟨g,c,n,a,Yb d e.size,fun j o m=>(e.cell d a).trans (i j o m),k,l⟩
def ze(b:Nat)(V:C8)(tj r:List fH)(a dp:Bool)(w:C7):Prop:=
 Is w b 73 #[V,(((tj.length-r.length:Nat):Int):Int),.bool a,.bool dp]/\k6 b V tj w/\r <:+tj/\qD r
theorem ze.lt{b:Nat}{V:C8}{tj r:List fH}{a dp:Bool}{w:C7}(c:ze b V tj r a dp w):b<w.heap.size:=c.1.lt
theorem ze.cells{b:Nat}{V:C8}{tj r:List fH}{c dp:Bool}{w:C7}(a:ze b V tj r c dp w):
 w.cell? (b,0)=some V/\w.cell? (b,1)=some (.int .i64 ((tj.length-r.length:Nat):Int))/\w.cell? (b,2)=some (.bool c)/\w.cell? (b,3)=some (.bool dp):=
 ⟨(a.1.cell 0).trans rfl,(a.1.cell 1).trans rfl,(a.1.cell 2).trans rfl,(a.1.cell 3).trans rfl⟩
theorem M9{tj r:List fH}(h:r <:+tj){t:fH}{q:List fH}(e:r=t::q):tj[tj.length-r.length]?=some t:=by
 obtain⟨p,rfl⟩:=h;subst e;rw[Dr,Yu,Yi Zr,Yy];rfl
theorem NA(b:List fH)(k:Nat)(t:fH)(c:b[k]?=some t):(jR b)[k*3]?=some (.int .i64 t.kind)/\(jR b)[k*3+1]?=some (.string ⟨t.text.toArray⟩)/\(jR b)[k*3+2]?=some (.int .i64 (t.line:Int)):=by
 induction b generalizing k with
 |nil=>simp at c
 |cons a r i=>
   have e:jR (a::r)=.int .i64 a.kind :: .string ⟨a.text.toArray⟩ :: .int .i64 (a.line:Int)::jR r:=by simp[jR]
   rw[e];cases k with
   |zero=>
     simp at c;subst c;exact⟨rfl,rfl,rfl⟩
   |succ k=>
     obtain⟨d,f,g⟩:=i k Xk;rw[show(k+1)*3=k*3+1+1+1 by omega];exact⟨d,f,g⟩
theorem ze.tok{b:Nat}{V:C8}{tj r:List fH}{d dp:Bool}{w:C7}(e:ze b V tj r d dp w):∃(g c k:Nat) (t:fH) (q:List fH),V=.slice (some ⟨g,0,none⟩) tj.length c/\r=t::q/\k=tj.length-r.length/\k<tj.length/\tj.length<=1000000/\
 w.cell? (b,0)=some (.slice (some ⟨g,0,none⟩) tj.length c)/\w.cell? (b,1)=some (.int .i64 (k:Int))/\w.cell? (b,2)=some (.bool d)/\w.cell? (b,3)=some (.bool dp)/\
 w.cell? (g,k*3)=some (.int .i64 t.kind)/\w.cell? (g,k*3+1)=some (.string ⟨t.text.toArray⟩)/\w.cell? (g,k*3+2)=some (.int .i64 (t.line:Int)):=by
 obtain⟨j,l,m,n⟩:=e.cells;obtain⟨_,⟨g,c,i,_,_,a,v,_⟩,x,u⟩:=e;obtain⟨t,q,rfl⟩:=List.exists_cons_of_ne_nil u.ne;have f:=M9 x rfl;obtain⟨o,p,s⟩:=NA tj _ t f;refine⟨g,c,_,t,q,i,rfl,rfl,?_,v,i▸j,l,m,n,a _ _ o,a _ _ p,a _ _ s⟩;exact(List.getElem?_eq_some_iff.1 f).1
def PR.un{α:Type}(x:PR α):PR Unit:=x.bind fun _ r=>.ok () r
def qE{α:Type}:PR α->Bool
 |.ok _ _=>false
 |_=>true
def zV{α:Type}(s:List UInt8):PR α->Bool
 |.ok _ r=>zr s r
 |_=>false
def jm(b:Nat)(V:C8)(tj:List fH)(x:PR Unit)(w:C7):Prop:=
 match x with
 |.ok _ r=>ze b V tj r false false w
 |.bad r=>ze b V tj r true false w
 |.deep r=>ze b V tj r false true w
 |.o=>False
def ja{α:Type}(x:PR α)(P:α->Prop):Prop:=
 match x with
 |.ok a _=>P a
 |.bad _=>∃a,P a
 |.deep _=>∃a,P a
 |.o=>True
theorem ze.off{b:Nat}{V:C8}{tj r:List fH}{c dp:Bool}{w w':C7}(a:ze b V tj r c dp w)(d:C2 w w'):ze b V tj r c dp w':=
 ⟨a.1.below d a.1.lt,a.2.1.off (fI.wb d a.lt),a.2.2⟩
theorem jm.below{b:Nat}{V:C8}{tj:List fH}{x:PR Unit}{w w':C7}(c:jm b V tj x w)(d:C2 w w'):jm b V tj x w':=by
 cases x with
 |ok a r=>exact ze.off c d
 |bad r=>exact ze.off c d
 |deep r=>exact ze.off c d
 |o=>exact c
theorem jm.lt{b:Nat}{V:C8}{tj:List fH}{x:PR Unit}{w:C7}(h:jm b V tj x w):b<w.heap.size:=by
 cases x with
 |ok a r=>exact ze.lt h
 |bad r=>exact ze.lt h
 |deep r=>exact ze.lt h
 |o=>exact absurd h id
theorem jm.drewN{b:Nat}{V:C8}{tj:List fH}{x:PR Unit}{w:C7}(h:jm b V tj x w)(n:Nat):jm b V tj x (w.drewN n):=h.below (ya Zb n)
theorem jm.box{b:Nat}{V:C8}{tj:List fH}{x:PR Unit}{w:C7}(d:jm b V tj x w):∃r c dp,ze b V tj r c dp w/\qE x=(c || dp)/\(x=.ok () r/\c=false/\dp=false\/x=.bad r/\c=true/\dp=false\/x=.deep r/\c=false/\dp=true):=by
 cases x with
 |ok a r=>exact⟨r,false,false,d,rfl,.inl ⟨rfl,rfl,rfl⟩⟩
 |bad r=>exact⟨r,true,false,d,rfl,.inr (.inl ⟨rfl,rfl,rfl⟩)⟩
 |deep r=>exact⟨r,false,true,d,rfl,.inr (.inr ⟨rfl,rfl,rfl⟩)⟩
 |o=>exact absurd d id
theorem RE{b:Nat}{V:C8}{tj:List fH}{x:PR Unit}{w:C7}(a:jm b V tj x w):C3 47 #[(b,0)] w fun e w'=>e=.returned (.bool (qE x))/\w'=w:=by
 obtain⟨r,f,dp,d,c,_⟩:=a.box;obtain⟨_,_,_,_⟩:=d.cells;rw[c];clear a d c;cases f
 all_goals
  go_enter func47,ntmps47;go_wp2;go_ret;exact⟨Uu,rfl⟩
theorem qM{b:Nat}{V:C8}{tj:List fH}{x:PR Unit}{w:C7}(a:jm b V tj x w)(v:Bool)(c:qE x=v):C3 47 #[(b,0)] w fun e w'=>e=.returned (.bool v)/\w'=w:=c▸RE a
theorem RF(s:List UInt8)(t:fH)(r:List fH):zr s (t::r)=(decide (t.kind=2)&&t.text == s):=rfl
theorem XH(t:List UInt8)(s:C6):(t == s.data.toList)=((⟨t.toArray⟩:C6).toList == s.toList):=by rw[Ym,Ym]
theorem XI{b:Nat}{V:C8}{tj r:List fH}{w:C7}(f:ze b V tj r false false w)(s:C6)(v:Bool)(a:zr s.data.toList r=v):
 C3 74 #[(b,0),s] w fun e w'=>e=.returned (.bool v)/\∃m,w'=w.drewN m:=by
 have l:∀m,jm b V tj (.ok () r) (w.drewN m):=fun m=>jm.drewN (x:=.ok () r) f m;obtain⟨g,c,k,t,q,rfl,rfl,n,_,_,_,_,_,_,p,u,_⟩:=f.tok;have i:=U l;clear f n l;have y:(k:Int)<tj.length:=O
 rw[RF,XH]at a;obtain⟨T,j⟩:∃T:C6,T=⟨t.text.toArray⟩:=⟨_,rfl⟩
 rw[<-j]at a u;clear j;cases hk2:decide (t.kind=2)with
 |true=>
   have d:t.kind=2:=of_decide_eq_true hk2;rw[d]at p;rw[hk2,Bool.true_and]at a;clear hk2 d;exact Ok
 |false=>
   have d:(t.kind == 2)=false:=by simpa using hk2
   rw[hk2,Bool.false_and]at a;subst a;clear hk2;exact Ok
theorem K3{b:Nat}{V:C8}{tj:List fH}{x:PR Unit}{w:C7}(a:jm b V tj x w)(d:qE x=true)(s:C6):
 C3 74 #[(b,0),s] w fun e w'=>e=.returned (.bool false)/\∃m,w'=w.drewN m:=by
 have i:∀m,jm b V tj x (w.drewN m):=fun m=>a.drewN m;obtain⟨r,_,dp,f,_,_⟩:=a.box;obtain⟨g,c,k,t,q,rfl,rfl,n,_,_,_,_,_,_,_,_,_⟩:=f.tok;have l:=U i;have j:=U d;clear a n i f d;have p:(k:Int)<tj.length:=O
 go_enter func74,ntmps74;go_wp2
 go_quiet ((go_at_call 47;exact Calls.quiet_of_same (qM (l.o _) true j.o)))
 go_wp2;go_ret;exact⟨rfl,_,rfl⟩
theorem RG{b:Nat}{V:C8}{tj:List fH}{x:PR Unit}{w:C7}(c:jm b V tj x w)(s:C6)(v:Bool)(d:zV s.data.toList x=v):
 C3 74 #[(b,0),s] w fun e w'=>e=.returned (.bool v)/\∃m,w'=w.drewN m:=by
 subst d;cases x with
 |ok a r=>exact XI c s _ rfl
 |bad r=>exact K3 c rfl s
 |deep r=>exact K3 c rfl s
 |o=>exact absurd c id
theorem ux{s:List UInt8}{x:PR Unit}(h:zV s x=true):∃r,x=.ok () r/\zr s r=true:=by
 cases x with
 |ok a r=>exact⟨r,rfl,h⟩
 |bad r=>cases h
 |deep r=>cases h
 |o=>cases h
theorem RH{n k:Nat}(_:k+1<=n):((n-(k+1):Nat):Int)+1=((n-k:Nat):Int):=O
theorem r1{a r:List fH}(h:r <:+a):r.length<=a.length:=h.length_le
theorem ze.next{b:Nat}{V:C8}{tj r:List fH}{w:C7}(a:ze b V tj r false false w)(c:gW r≠3):ze b V tj r.tail false false (w.setCell (b,1) ((((tj.length-r.length:Nat):Int)+1):Int)):=by
 have d:=a.lt;have f:=jq a.2.2.2;have e:=r1 a.2.2.1;refine⟨?_,a.2.1.off ((fI.refl b _ w).wt d 1 _),(List.tail_suffix r).trans a.2.2.1,a.2.2.2.tail c⟩;have:=a.1.set 1 (.int .i64 (((tj.length-r.length:Nat):Int)+1));rw[show r.length=r.tail.length+1 by omega,RH O]at this ⊢;exact this
def jK(b:Nat)(V:C8)(tj:List fH)(w:C7)(x:PR Unit)(w':C7):Prop:=jm b V tj x w'/\fI b w.heap.size w w'
theorem jK.st{b:Nat}{V:C8}{tj:List fH}{w w':C7}{x:PR Unit}(h:jK b V tj w x w'):jm b V tj x w':=h.1
theorem jK.off{b:Nat}{V:C8}{tj:List fH}{w w':C7}{x:PR Unit}(h:jK b V tj w x w'):fI b w.heap.size w w':=h.2
theorem qB{b:Nat}{V:C8}{tj:List fH}{x:PR Unit}{w:C7}(a:jm b V tj x w)(s:C6)(i:zV s.data.toList x=true):
 C3 50 #[(b,0),s] w fun e w'=>e=.returned (.bool true)/\jK b V tj w (x.bind fun _ r=>.ok () r.tail) w':=by
 obtain⟨r,rfl,l⟩:=ux i;have d:∀n,ze b V tj r.tail false false ((w.drewN n).setCell (b,1) ((((tj.length-r.length:Nat):Int)+1):Int)):=fun n=>ze.next (w:=w.drewN n) (jm.drewN (x:=.ok () r) a n) (by rw[(uS l).1];decide);have f:∀n,fI b w.heap.size w ((w.drewN n).setCell (b,1) ((((tj.length-r.length:Nat):Int)+1):Int)):=fun n=>((fI.refl b _ w).drewN n).wt (jm.drewN (x:=.ok () r) a n).lt 1 _;obtain⟨g,c,k,t,q,rfl,rfl,j,_,_,_,_,_,_,_,_,_⟩:=(show ze b V tj r false false w from a).tok;have f1:=(show ze b _ tj _ false false w from a).1.frozen 1;rw[<-j]at d f;have p:Do (∀n,jK b (.slice (some ⟨g,0,none⟩) tj.length c) tj w (.ok () q) ((w.drewN n).setCell (b,1) (((k:Int)+1):Int))):=fun n=>⟨d n,f n⟩
 have H:=U a;have u:=U i;have v:(k:Int)<tj.length:=O
 clear a i j d f l;go_enter func50,ntmps50;go_wp2_with (go_at_call 74;(with_reducible refine(RG H.o s true u.o).mono ?_);rintro e _ ⟨rfl,m,rfl⟩);go_ret;exact⟨rfl,p.o m⟩
theorem rC{b:Nat}{V:C8}{tj:List fH}{x:PR Unit}{w:C7}(a:jm b V tj x w)(s:C6)(c:zV s.data.toList x=false):
 C3 50 #[(b,0),s] w fun e w'=>e=.returned (.bool false)/\∃m,w'=w.drewN m:=by
 have H:=U a;have d:=U c;clear a c;go_enter func50,ntmps50;go_wp2_with (go_at_call 74;(with_reducible refine(RG H.o s false d.o).mono ?_);rintro e _ ⟨rfl,m,rfl⟩);go_ret;exact⟨rfl,m,rfl⟩
theorem zE{b:Nat}{V:C8}{tj:List fH}{x:PR Unit}{w:C7}(a:jm b V tj x w)(s:C6)(f:zV s.data.toList x=false):
 C3 50 #[(b,0),s] w fun e w'=>e=.returned (.bool false)/\jK b V tj w x w':=
 (rC a s f).mono fun _ _ ⟨c,m,d⟩=>⟨c,d▸⟨a.drewN m,(fI.refl b _ w).drewN m⟩⟩
theorem ze.spoil{b:Nat}{V:C8}{tj r:List fH}{c:Bool}{w:C7}(a:ze b V tj r c false w):ze b V tj r true false (w.setCell (b,2) true):=
 ⟨a.1.set 2 (.bool true),a.2.1.off ((fI.refl b _ w).wt a.lt 2 _),a.2.2⟩
theorem NB{b:Nat}{V:C8}{tj r:List fH}{a:Bool}{w:C7}(d:ze b V tj r a false w)(m:Nat):jK b V tj w (.bad r) ((w.drewN m).setCell (b,2) true):=by
 have c:ze b V tj r a false (w.drewN m):=d.off (ya Zb m);exact⟨c.spoil,((fI.refl b _ w).drewN m).wt c.lt 2 _⟩
theorem zh{b:Nat}{V:C8}{tj:List fH}{x:PR Unit}{w:C7}(c:jm b V tj x w)(s:C6):
 C3 52 #[(b,0),s] w fun e w'=>e=.returned (.tuple #[])/\jK b V tj w (x.bind fun _ r=>zO s.data.toList r) w':=by
 cases hv:zV s.data.toList x with
 |true=>
   obtain⟨r,rfl,j⟩:=ux hv;have a:zO s.data.toList r=.ok () r.tail:=by unfold zO;rw[Dq j]
   rw[show((PR.ok () r).bind fun _ r=>zO s.data.toList r)=.ok () r.tail from a];have H:=U c;have d:=U hv;clear c hv j a;go_enter func52,ntmps52;go_wp2_with (go_at_call 50;(with_reducible refine(qB H.o s d.o).mono ?_);rintro e k ⟨rfl,p⟩)
   go_end0
   exact⟨rfl,p⟩
 |false=>
   obtain⟨r,_,dp,f,q,i⟩:=c.box
   have a:(x.bind fun _ r=>zO s.data.toList r)=if dp then .deep r else .bad r:=by
    rcases i with⟨rfl,rfl,rfl⟩|⟨rfl,rfl,rfl⟩|⟨rfl,rfl,rfl⟩
    .show zO s.data.toList r=_
     unfold zO;rw[Dp (by rw[show zr s.data.toList r=false from hv];decide)];rfl
    .rfl
    .rfl
   rw[a];obtain⟨_,_,_,_⟩:=f.cells;have t:=f.1.frozen 2;have H:=U c;have d:=U hv;have l:=U f;have n:=U i;clear c hv f i q a;cases dp with
   |true=>
     go_enter func52,ntmps52;go_wp2_with (go_at_call 50;(with_reducible refine(rC H.o s d.o).mono ?_);rintro e k ⟨rfl,m,rfl⟩)
     go_end0
     refine⟨rfl,?_,(fI.refl b _ w).drewN m⟩;rcases n.o with⟨_,_,g⟩|⟨_,_,g⟩|⟨rfl,_,_⟩
     .cases g
     .cases g
     .exact H.o.drewN m
   |false=>
     go_enter func52,ntmps52;go_wp2_with (go_at_call 50;(with_reducible refine(rC H.o s d.o).mono ?_);rintro e k ⟨rfl,m,rfl⟩)
     go_end0
     exact⟨rfl,NB l.o m⟩
def qn(b:Nat)(V:C8)(tj:List fH)(w:C7){α:Type}(x:PR α)(F:C7->α->C8->Prop)(e:Ending)(w':C7):Prop:=
 ∃v,e=.returned v/\jK b V tj w x.un w'/\ja x fun a=>F w' a v
def zdk(_:C7)(a:C6)(v:C8):Prop:=v=.string a
def XJ(_:C7)(a:Int)(v:C8):Prop:=v=.int .i64 a
theorem AD{b:Nat}{V:C8}{tj:List fH}{x:PR Unit}{w:C7}(a:jm b V tj x w)(c:qE x=true)(k:Int):
 C3 49 #[(b,0),(k:Int)] w fun e w'=>e=.returned (.string ⟨#[]⟩)/\jK b V tj w x w':=by
 have H:=U a;have d:=U c;clear a c;go_enter func49,ntmps49;go_wp2_with (go_at_call 47;(with_reducible refine(qM H.o true d.o).mono ?_);rintro e _ ⟨rfl,rfl⟩);go_ret;exact⟨rfl,H.o,fI.refl _ _ _⟩
theorem E8{b:Nat}{V:C8}{tj:List fH}{x:PR Unit}{w a:C7}(c:jK b V tj w x a)(e:w.heap.size<=a.heap.size)(o:Obj):jK b V tj w x (a.alloc o).drew:=by
 have d:C2 a (a.alloc o).drew:=(Zb.alloc Zr o).drew;exact⟨c.1.below d,c.2.trans ((fI.wb d c.1.lt).mono e)⟩
theorem RI{b:Nat}{V:C8}{tj r:List fH}{w:C7}(a:ze b V tj r false false w)(c:gW r≠3)(o:Obj):jK b V tj w (.ok () r.tail) (((w.setCell (b,1) ((((tj.length-r.length:Nat):Int)+1):Int)).alloc o).drew):=
 E8 (x:=.ok () r.tail) ⟨a.next c,(fI.refl b _ w).wt a.lt 1 _⟩ Uu o
theorem AE{b:Nat}{V:C8}{tj r:List fH}{w:C7}(h:ze b V tj r false false w)(o:Obj):jK b V tj w (.bad r) (((w.setCell (b,2) true).alloc o).drew):=
 E8 (x:=.bad r) ⟨h.spoil,(fI.refl b _ w).wt h.lt 2 _⟩ Uu o
theorem jK.drewN{b:Nat}{V:C8}{tj:List fH}{x:PR Unit}{w c:C7}{m:Nat}(a:jK b V tj (w.drewN m) x c):jK b V tj w x c:=⟨a.1,((fI.refl b _ w).drewN m).trans a.2⟩
theorem nY{b:Nat}{V:C8}{tj r:List fH}{w:C7}(a:ze b V tj r false false w)(k:Int)(u:k≠3):
 C3 49 #[(b,0),(k:Int)] w (qn b V tj w (qt k r) zdk):=by
 have f:=fun(s:gW r≠3) o=>RI a s o;have j:=fun o=>AE a o;have A:=a.lt;have f1:=a.1.frozen 1;have y:=a.1.frozen 2;have i:=C5 (jm b V tj (.ok () r) w) a;obtain⟨g,c,p,t,q,rfl,rfl,l,_,_,_,_,_,_,_,_,_⟩:=a.tok;rw[<-l]at f;have z:(p:Int)<tj.length:=O
 have B:0<w.heap.size:=O
 have n:=U j;clear a l j;cases hk2:decide (t.kind=k)with
 |true=>
   obtain rfl:t.kind=k:=of_decide_eq_true hk2;have m:=U (f u);have d:qt t.kind (t::q)=.ok ⟨t.text.toArray⟩ q:=by unfold qt;rw[Dq (show gW (t::q)=t.kind from rfl)];rfl
   rw[d];clear hk2 f d;go_enter func49,ntmps49;go_wp2_with (go_at_call 47;(with_reducible refine(qM i.o false rfl).mono ?_);rintro e v ⟨rfl,rfl⟩)
   go_region_held3 (fun w'=>w'.cell? (b,0)=some (.slice (some ⟨g,0,none⟩) tj.length c)/\w'.cell? (b,1)=some (.int .i64 p)/\w'.cell? (g,p*3)=some (.int .i64 t.kind)/\w'.cell? (g,p*3+1)=some (.string ⟨t.text.toArray⟩)/\w'.cell? (g,p*3+2)=some (.int .i64 (t.line:Int))/\0<w'.heap.size)
    (first|go_keep|(go_split_ands;refine⟨?_,?_,?_,?_,?_,?_⟩ <;> assumption))
    (fail)
   go_wp2_with fail;go_ret;exact⟨_,rfl,m.o _,rfl⟩
 |false=>
   have x:(t.kind != k)=true:=by simpa using hk2
   have d:qt k (t::q)=.bad (t::q):=by unfold qt;rw[Dp (show ¬gW (t::q)=k from of_decide_eq_false hk2)]
   rw[d];clear hk2 f d;go_enter func49,ntmps49;go_wp2_with (go_at_call 47;(with_reducible refine(qM i.o false rfl).mono ?_);rintro e v ⟨rfl,rfl⟩)
   go_region_held3 (fun w'=>w'.cell? (b,0)=some (.slice (some ⟨g,0,none⟩) tj.length c)/\w'.cell? (b,1)=some (.int .i64 p)/\w'.cell? (g,p*3)=some (.int .i64 t.kind)/\w'.cell? (g,p*3+1)=some (.string ⟨t.text.toArray⟩)/\w'.cell? (g,p*3+2)=some (.int .i64 (t.line:Int))/\0<w'.heap.size)
    (first|go_keep|(go_split_ands;refine⟨?_,?_,?_,?_,?_,?_⟩ <;> assumption))
    (fail)
   go_wp2_with fail;go_ret;exact⟨_,rfl,n.o _,⟨_,rfl⟩⟩
theorem hP{b:Nat}{V:C8}{tj r:List fH}{w:C7}(d:jm b V tj (.ok () r) w)(k:Int)(j:k≠3)(i:gW r=k)(s:C6)(l:s=⟨(pZ r).toArray⟩):
 C3 49 #[(b,0),(k:Int)] w fun e w'=>e=.returned (.string s)/\jK b V tj w (.ok () r.tail) w':=by
 subst l;have c:qt k r=.ok ⟨(pZ r).toArray⟩ r.tail:=by unfold qt;rw[Dq i]
 refine(nY d k j).mono fun e w' a=>?_;rw[c]at a;obtain⟨v,g,f,m⟩:=a;exact⟨by rw[g,show v=.string ⟨(pZ r).toArray⟩from m],f⟩
theorem XK{b:Nat}{V:C8}{tj r:List fH}{w:C7}(f:jm b V tj (.ok () r) w)(k:Int)(l:k≠3)(j:gW r≠k):
 C3 49 #[(b,0),(k:Int)] w fun e w'=>∃s,e=.returned (.string s)/\jK b V tj w (.bad r) w':=by
 have d:qt k r=.bad r:=by unfold qt;rw[Dp j]
 refine(nY f k l).mono fun e w' c=>?_;rw[d]at c;obtain⟨v,i,g,a,m⟩:=c;exact⟨a,by rw[i,show v=.string a from m],g⟩
theorem uU{b:Nat}{V:C8}{tj:List fH}{x:PR Unit}{w:C7}(d:jm b V tj x w):
 C3 48 #[(b,0)] w (qn b V tj w (x.bind fun _ r=>k4 r) XJ):=by
 cases hv:zV k3 x with
 |true=>
   obtain⟨r,rfl,l⟩:=ux hv;have c:k4 r=.ok 1 r.tail:=by unfold k4;rw[Dq l]
   rw[show((PR.ok () r).bind fun _ r=>k4 r)=.ok 1 r.tail from c];have H:=U d;have f:=U hv;clear d hv l c;go_enter func48,ntmps48;go_wp2_with (go_at_call 50;(with_reducible refine(qB H.o _ f.o).mono ?_);rintro e n ⟨rfl,g⟩);go_ret;exact⟨_,rfl,g,rfl⟩
 |false=>
   have c:(x.bind fun _ r=>k4 r)=x.bind fun _ r=>(zO xR r).bind fun _ r=>.ok 2 r:=by
    cases x with
    |ok a r=>
      show k4 r=(zO xR r).bind _;unfold k4;rw[Dp (by rw[show zr k3 r=false from hv];decide)]
    |_=>rfl
   have j:(x.bind fun _ r=>(zO xR r).bind fun _ r=>PR.ok (2 :Int) r).un=x.bind fun _ r=>zO xR r:=by
    cases x with
    |ok a r=>show((zO xR r).bind _).un=zO xR r;unfold zO;split<;>rfl
    |_=>rfl
   have k:ja (x.bind fun _ r=>(zO xR r).bind fun _ r=>PR.ok (2 :Int) r) fun a=>XJ w a (.int .i64 2):=by
    cases x with
    |ok a r=>show ja ((zO xR r).bind _) _;unfold zO;split;exact rfl;exact⟨2,rfl⟩
    |bad r=>exact⟨2,rfl⟩
    |deep r=>exact⟨2,rfl⟩
    |o=>trivial
   rw[c];have H:=U d;have f:=U hv;have i:=U (Dt j k);clear d hv c j k;go_enter func48,ntmps48
   go_wp2_with (first
    |(go_at_call 50;(with_reducible refine(rC H.o _ f.o).mono ?_);rintro e n ⟨rfl,m,rfl⟩)
    |(go_at_call 52;(with_reducible refine(zh (H.o.drewN m) _).mono ?_);rintro e _ ⟨rfl,g⟩))
   go_ret;refine⟨_,rfl,?_,i.o.2⟩;rw[i.o.1];exact g.drewN
def zI{α:Type}(x:PR α):Prop:=match x with | .o=>False|_=>True
theorem zI.bind{α β:Type}{k:Nat}{l:List fH}{x:PR α}{f:α->List fH->PR β}(b:zn k l x)(c:zI x)(g:∀a r,x=.ok a r->qD r->r.length+k<=l.length->zI (f a r)):zI (x.bind f):=by
 cases x with
 |ok a r=>exact g a r rfl (show zJ k l r from b).2.1 (show zJ k l r from b).2.2
 |bad r=>trivial
 |deep r=>trivial
 |o=>exact c
theorem qT(s:List UInt8)(l:List fH):zI (zO s l):=by unfold zO;split<;>trivial
theorem vF(k:Int)(l:List fH):zI (qt k l):=by unfold qt;split<;>trivial
theorem AF(n:Nat):(∀lev d l,qD l->1<=lev->lev<=11->20*(l.length:Int)+15-lev<=n->zI (pE n lev d l))/\(∀lev d a l,qD l->1<=lev->lev<=10->20*(l.length:Int)+15-lev<=n->zI (pL n lev d a l))/\
 (∀d l,qD l->20*l.length+3<=n->zI (pU n d l))/\(∀d l,qD l->20*l.length+2<=n->zI (pP n d l))/\
 (∀d s l,qD l->20*l.length+1<=n->zI (pN n d s l))/\(∀d l,qD l->20*l.length+16<=n->zI (pA n d l))/\(∀d tk l,qD l->20*l.length+15<=n->zI (rZ n d tk l)):=by
 induction n with
 |zero=>exact⟨fun _ _ _ _ _ _ _=>O,fun _ _ _ _ _ _ _ _=>O,fun _ _ _ _=>O,fun _ _ _ _=>O,fun _ _ _ _ _=>O,fun _ _ _ _=>O,fun _ _ _ _ _=>O⟩
 |succ n y=>
   obtain⟨j,t,u,x,w,v,q⟩:=y;refine⟨fun lev d l b m p i=>?_,fun lev d a l b m p i=>?_,fun d l b i=>?_,fun d l b i=>?_,fun d s l b i=>?_,fun d l b i=>?_,fun d tk l b i=>?_⟩
   .rw[pE]
    split
    .exact u d l b O
    .exact zI.bind (jC b) (j _ _ _ b O O O) fun a r _ c g=>t _ _ _ _ c m O O
   .rw[pL]
    split
    .trivial
    .rename_i o
     obtain⟨s,f⟩:=vw o;have k:=jq b;exact zI.bind (jC (b.sign f)) (j _ _ _ (b.sign f) O O O) fun a r _ c g=>t _ _ _ _ c m p O
   .rw[pU]
    split
    .trivial
    .split
     .exact x d l b O
     .rename_i o
      obtain⟨s,f⟩:=hM o;have k:=jq b;split
      .exact zI.bind (zM (b.sign f) _) (qT _ _) fun _ r _ c g=>zI.bind (jC c) (j _ _ _ c O O O) fun e r _ c g=>zI.bind (zM c _) (qT _ _) fun _ r _ c g=>trivial
      .exact zI.bind ((nX n).2.2.1 _ _ (b.sign f)) (u _ _ (b.sign f) O) fun _ r _ c g=>trivial
   .rw[pP]
    have k:=jq b;split
    .rename_i f
     exact Oj
    .split
     .trivial
     .split
      .trivial
      .split
       .rename_i f
        exact zI.bind (zM (b.sign f) _) (qT _ _) fun _ r _ c g=>zI.bind (zM c _) (qT _ _) fun _ r _ c g=>trivial
       .split
        .trivial
        .exact zI.bind (jJ b 1 Us) (vF _ _) fun s r _ c g=>w _ _ _ c O
   .rw[pN]
    have k:=jq b;split
    .rename_i f
     exact zI.bind (CQ (b.sign f)) (v _ _ (b.sign f) O) fun _ r _ c g=>trivial
    .split
     .rename_i f
      exact Oj
     .trivial
   .rw[pA]
    split
    .trivial
    .exact q _ _ _ b O
   .rw[rZ]
    refine zI.bind (jC b) (j _ _ _ b O O O) fun e r _ c g=>?_;split
    .rename_i f
     have k:=jq c;exact q _ _ _ (c.sign f) O
    .exact zI.bind (zM c _) (qT _ _) fun _ r _ c g=>trivial
theorem iY{n:Nat}{d:Int}{l:List fH}(h:qD l)(_:20*l.length+14<=n):zI (pE n 1 d l):=(AF n).1 1 d l h O O O
theorem XL{n:Nat}{d:Int}{l:List fH}(a:qD l)(b:20*l.length+16<=n):zI (pA n d l):=(AF n).2.2.2.2.2.1 d l a b
theorem CR{n:Nat}{l:List fH}(c:qD l)(_:20*l.length+14<=n):zI (pI n l):=by
 unfold pI;exact zI.bind (zM c _) (qT _ _) fun _ r _ a b=>zI.bind (jC a) (iY a O) fun e r _ a b=>zI.bind (zM a _) (qT _ _) fun _ r _ a b=>trivial
theorem r2{l:List fH}(h:qD l):zI (k4 l):=by
 unfold k4;split
 .trivial
 .exact zI.bind (zM h _) (qT _ _) fun _ r _ _ _=>trivial
theorem yM{α:Type}{k:Nat}{l:List fH}{x:PR α}(c:zn k l x)(b:zI x):zI (vP x):=by
 unfold vP;exact zI.bind c b fun _ r _ a d=>zI.bind (zM a _) (qT _ _) fun _ r _ a d=>trivial
theorem RJ{n:Nat}{l:List fH}(d:qD l)(f:20*l.length+16<=n):zI (q8 n l):=by
 unfold q8;refine zI.bind (jJ d 1 Us) (vF _ _) fun s r _ a b=>?_;have g:=jq a;split
 .rename_i c
  exact zI.bind (CQ (a.sign c)) (XL (a.sign c) O) fun _ r _ a b=>trivial
 .split
  .rename_i c
   exact zI.bind (jC (a.sign c)) (iY (a.sign c) O) fun e r _ a b=>zI.bind (zM a _) (qT _ _) fun _ r _ a b=>zI.bind (zM a _) (qT _ _) fun _ r _ a b=>zI.bind (jC a) (iY a O) fun _ r _ a b=>trivial
  .exact zI.bind (zM a _) (qT _ _) fun _ r _ a b=>zI.bind (jC a) (iY a O) fun _ r _ a b=>trivial
theorem NC(n:Nat):(∀d l,qD l->20*l.length+30<=n->zI (pS n d l))/\(∀d e t l,qD l->20*l.length+30<=n->zI (rA n d e t l))/\(∀d l,qD l->20*l.length+30<=n->zI (pB n d l))/\(∀d tk l,qD l->20*l.length+31<=n->zI (nP n d tk l)):=by
 induction n with
 |zero=>exact⟨fun _ _ _ _=>O,fun _ _ _ _ _ _=>O,fun _ _ _ _=>O,fun _ _ _ _ _=>O⟩
 |succ n u=>
   obtain⟨q,p,i,j⟩:=u;refine⟨fun d l b g=>?_,fun d e t l b g=>?_,fun d l b g=>?_,fun d tk l b g=>?_⟩
   .rw[pS]
    have o:=jq b;split
    .trivial
    .split
     .exact yM ((xu b).bind (m:=0) (n:=0) (fun t r _ a=>(jJ a 1 Us).bind (n:=0) (fun s r _ a=>(zM a _).bind (n:=0) (fun _ r _ a=>(jC a).bind (n:=0) (fun _ r _ a=>zn.self a _) O) O) O) O)
       (zI.bind (xu b) (r2 b) fun t r _ a f=>zI.bind (jJ a 1 Us) (vF _ _) fun s r _ a f=>zI.bind (zM a _) (qT _ _) fun _ r _ a f=>zI.bind (jC a) (iY a O) fun _ r _ a f=>trivial)
     .split
      .rename_i c
       exact zI.bind (yx (b.sign c)) (CR (b.sign c) O) fun e r _ a f=>zI.bind (iX a) (i _ _ a O) fun t r _ a f=>p _ _ _ _ a O
      .split
       .rename_i c
        exact zI.bind (yx (b.sign c)) (CR (b.sign c) O) fun e r _ a f=>zI.bind (iX a) (i _ _ a O) fun t r _ a f=>trivial
       .split
        .rename_i c
         exact Ol
        .split
         .rename_i c
          exact Ol
         .split
          .rename_i c
           exact yM ((jC (b.sign c)).bind (n:=0) (m:=0) (fun _ r _ a=>zn.self a _) O) (zI.bind (jC (b.sign c)) (iY (b.sign c) O) fun _ r _ a f=>trivial)
          .split
           .rename_i c
            exact yM ((yx (b.sign c)).bind (n:=0) (m:=0) (fun _ r _ a=>zn.self a _) O) (zI.bind (yx (b.sign c)) (CR (b.sign c) O) fun _ r _ a f=>trivial)
           .exact yM (E6 b) (RJ b O)
   .rw[rA]
    have o:=jq b;split
    .rename_i c
     exact zI.bind (iX (b.sign c)) (i _ _ (b.sign c) O) fun _ r _ a f=>trivial
    .trivial
   .rw[pB]
    exact zI.bind (zM b _) (qT _ _) fun _ r _ a f=>j _ _ _ a O
   .rw[nP]
    split
    .trivial
    .exact zI.bind (rB b) (q _ _ b O) fun _ r _ a f=>j _ _ _ a O
theorem XM{n:Nat}{d:Int}{l:List fH}(a:qD l)(b:20*l.length+30<=n):zI (pB n d l):=(NC n).2.2.1 d l a b
theorem E9:∀(n:Nat) (tk:List Pa) (l:List fH),qD l->20*l.length+1<=n->zI (p2 n tk l)
 |0,_,_,_,_=>O
 | n+1,tk,l,h,hn=>by
   rw[p2];refine zI.bind (xu h) (r2 h) fun t r _ a b=>zI.bind (jJ a 1 Us) (vF _ _) fun s r _ a b=>?_;have d:=jq a;split
   .rename_i c
    exact E9 n _ _ (a.sign c) O
   .exact zI.bind (zM a _) (qT _ _) fun _ r _ a b=>trivial
theorem RK{n:Nat}{l:List fH}(a:qD l)(_:20*l.length+1<=n):zI (XG n l):=by
 unfold XG;refine zI.bind (zM a _) (qT _ _) fun _ r _ b _=>?_;split
 .trivial
 .exact E9 n _ _ b O
theorem RL{n:Nat}{t:Int}{s:C6}{l:List fH}(b:qD l)(_:20*l.length+30<=n):zI (o9 n t s l):=by
 unfold o9;exact zI.bind (r0 b) (RK b O) fun _ r _ a c=>zI.bind (iX a) (XM a O) fun _ r _ a c=>trivial
theorem ND{s:C6}{l:List fH}(c:qD l):zI (p3 s l):=by
 unfold p3;exact zI.bind (jJ c 0 Us) (vF _ _) fun _ r _ a b=>zI.bind (zM a _) (qT _ _) fun _ r _ a b=>zI.bind (zM a _) (qT _ _) fun _ r _ a b=>trivial
theorem r3:∀(n:Nat) (p:Pr) (l:List fH),qD l->20*l.length+40<=n->zI (k5 n p l)
 |0,_,_,_,_=>O
 | n+1,p,l,h,hn=>by
   rw[k5];split
   .trivial
   .refine zI.bind (xu h) (r2 h) fun t r _ a b=>zI.bind (jJ a 1 Us) (vF _ _) fun s r _ a b=>?_
    split
    .rename_i c
     have d:=jq a;exact zI.bind (AC (a.sign c.2.2)) (ND (a.sign c.2.2)) fun _ r _ a b=>r3 n _ _ a O
    .exact zI.bind (hN a) (RL a O) fun _ r _ a b=>r3 n _ _ a O
def kX(l:List fH):PR Pr:=k5 (20*l.length+40) ⟨[],[]⟩ l
theorem yb{l:List fH}(h:qD l):zI (kX l):=r3 _ _ _ h Zr
