import Derived.Test.YthcmenajdcbnnaaGreatDoorAtTokMath
set_option linter.unusedSimpArgs false
set_option linter.unusedVariables false
set_option maxRecDepth 100000
/- What a program does, as a plain function (layer 7). No Go, no program. -/
namespace Go.Proofs.YthcmenajdcbnnaaGreatDoor
open Lib (hid)
open Go.RowKit
theorem O3{p:Prop}(h:p:=by
 dsimp only;cases s.arr[k]? with
 | none=>exact More.end a
 | some l=>
   dsimp only;split
   .exact More.ok
   .exact More.end (s:=jq s 3) a):p:=h
theorem O4{p:Prop}(h:p:=by
 split
 .exact Goes.ok _ _
 .split
  .exact Goes.ok _ _
  .exact evW_goes (fun vs s=>(j vs).b s) (fun vs s=>(c vs).b s) h _ u):p:=h
structure RS where
 arr:List (List Int)
 inp:List Int
 out:List Int
 cost:Nat
 fuel:Nat
 stat:Int
 spent:Bool
abbrev Vals:=List (ByteArray × Int)
inductive Res (α:Type) where
 | ok (a:α) (s:RS)
 | fin (s:RS)
def Res.bind{α β:Type}:Res α->(α->RS->Res β)->Res β
 | .ok a s,f=>f a s
 | .fin s,_=>.fin s
def Res.st{α:Type}:Res α->RS
 | .ok _ s=>s
 | .fin s=>s
def kB:Vals->ByteArray->Option Nat
 | [],_=>none
 | x::r,s=>match kB r s with
   | some k=>some (k+1)
   | none=>if x.1=s then some 0 else none
def evGet(vs:Vals)(s:ByteArray):Int:=match kB vs s with|some k=>((vs[k]?).map (·.2)).getD 0|none=>0
def y6(vs:Vals)(s:ByteArray)(n:Int):Vals:=match kB vs s with|some k=>vs.set k (s,n)|none=>vs
def qI(s:RS):Res Unit:=match s.fuel with
 | 0=>.fin { s with spent:=true }
 | f+1=>.ok () { s with fuel:=f }
def zT(s:RS):RS:={ s with cost:=s.cost+1 }
def jq(s:RS)(k:Int):RS:={ s with stat:=k }
def evL(f:Ex->RS->Res Int):List Ex->RS->Res (List Int)
 | [],s=>.ok [] s
 | e::r,s=>(f e s).bind fun a s=>(evL f r s).bind fun l s=>.ok (a::l) s
abbrev yL:=Int × Int × Vals
def kx(f:Vals->St->RS->Res yL):Vals->List St->RS->Res yL
 | vs,[],s=>.ok (0,0,vs) s
 | vs,t::r,s=>(f vs t s).bind fun a s=>if a.1=0 then kx f a.2.2 r s else .ok a s
def qw(f:Vals->St->RS->Res yL)(vs:Vals)(l:List St)(s:RS):Res yL:=
 (kx f vs l s).bind fun a s=>.ok (a.1,a.2.1,a.2.2.take vs.length) s
def evW(e:Vals->RS->Res Int)(b:Vals->RS->Res yL):Nat->Vals->RS->Res yL
 | 0,_,s=>.fin s
 | k+1,vs,s=>(e vs s).bind fun a s=>if a=0 then .ok (0,0,vs) s else
    (b vs s).bind fun c s=>if c.1=3 then .ok c s else if c.1=1 then .ok (0,0,c.2.2) s else evW e b k c.2.2 s
def ym(p:Pr)(name:ByteArray)(i:Int)(s:RS):Res Int:=
 match zb p.arrays name with
 | none=>.fin s
 | some k=>match s.arr[k]? with
   | none=>.fin s
   | some l=>if 0<=i/\i<l.length then .ok (l.getD i.toNat 0) s else .fin (jq s 3)
def kY(p:Pr)(name:ByteArray)(i n:Int)(s:RS):Res Unit:=
 match zb p.arrays name with
 | none=>.fin s
 | some k=>match s.arr[k]? with
   | none=>.fin s
   | some l=>if 0<=i/\i<l.length then .ok () { s with arr:=s.arr.set k (l.set i.toNat n) } else .fin (jq s 3)
def xR(s:RS):Res Int:=match s.inp with
 | []=>.fin (jq s 4)
 | n::r=>.ok n { s with inp:=r }
def zw(p:Pr)(c:Fu->List Int->RS->Res Int)(vs:Vals)(k op n:Int)(name:ByteArray)(l:List Int)(s:RS):Res Int:=
 if k=1\/k=2 then .ok n s
 else if k=3 then .ok (evGet vs name) s
 else if k=4 then .ok (wOne op (l.getD 0 0)) (zT s)
 else if k=5 then(if qj op (l.getD 1 0)then .ok (qa op (l.getD 0 0) (l.getD 1 0)) (zT s)else .fin (jq (zT s) 2))
 else if k=6 then ym p name (l.getD 0 0) (zT s)
 else if k=7 then(match jH p name with|some f=>c f l (zT s)|none=>.fin s)
 else xR (zT s)
def evPar(f:Fu)(l:List Int):Vals:=(f.params.map (·.name)).zip l
mutual
def yA(p:Pr):Nat->Vals->Ex->RS->Res Int
 | 0,_,_,s=>.fin { s with spent:=true }
 | g+1,vs,.mk k op n name args,s=>(qI s).bind fun _ s=>
   if k=5/\(op=18\/op=19)then
    (yA p g vs (args.getD 0 jz) s).bind fun a s=>if decide (a≠0)=decide (op=19)then .ok a s else yA p g vs (args.getD 1 jz) s
   else(evL (yA p g vs) args s).bind fun l s=>zw p (fun f l s=>(qw (j9 p g) (evPar f l) f.body s).bind fun b s=>.ok b.2.1 s) vs k op n name l s
def j9(p:Pr):Nat->Vals->St->RS->Res yL
 | 0,_,_,s=>.fin { s with spent:=true }
 | g+1,vs,.mk k _ name args thn els,s=>(qI s).bind fun _ s=>
   if k=5 then evW (fun vs s=>yA p g vs (args.getD 0 jz) s) (fun vs s=>qw (j9 p g) vs thn s) (s.fuel+1) vs s
   else if k=6 then .ok (1,0,vs) s
   else if k=7 then .ok (2,0,vs) s
   else(yA p g vs (args.getD 0 jz) s).bind fun a s=>
    if k=1 then .ok (0,0,vs++[(name,a)]) s
    else if k=2 then .ok (0,0,y6 vs name a) s
    else if k=3 then(yA p g vs (args.getD 1 jz) s).bind fun n s=>(kY p name a n (zT s)).bind fun _ s=>.ok (0,0,vs) s
    else if k=4 then(if a≠0 then qw (j9 p g) vs thn s else qw (j9 p g) vs els s)
    else if k=8 then .ok (3,a,vs) s
    else if k=9 then .ok (0,0,vs) { zT s with out:=s.out++[a] }
    else .ok (0,0,vs) s
end
def zZ(p:Pr)(b:List Int)(fuel:Int):Int × Int × List Int × Nat × Nat:=
 if(vD p).1≠0 then(0,0,[],0,0)else
 match jH p ⟨#[109,97,105,110]⟩with
 | none=>(0,0,[],0,0)
 | some f=>
   match qw (j9 p fuel.toNat) [] f.body ⟨p.arrays.map fun a=>List.replicate a.size.toNat 0,b,[],0,fuel.toNat,0,false⟩with
   | .ok h s=>(1,h.2.1,s.out,s.cost,s.fuel)
   | .fin s=>(s.stat,0,s.out,s.cost,s.fuel)
structure Mv (s t:RS):Prop where
 fuel:t.fuel<=s.fuel
 pay:t.cost+t.fuel<=s.cost+s.fuel
 cost:s.cost<=t.cost
 len:t.arr.map List.length=s.arr.map List.length
 inp:∃l,s.inp=l++t.inp
 out:∃l,t.out=s.out++l
theorem Mv.refl(s:RS):Mv s s:=⟨Nat.le_refl _,Nat.le_refl _,Nat.le_refl _,rfl,⟨[],rfl⟩,⟨[],(List.append_nil _).symm⟩⟩
theorem Mv.trans{s t u:RS}(c:Mv s t)(g:Mv t u):Mv s u:=by
 obtain⟨l,h⟩:=c.inp;obtain⟨m,i⟩:=g.inp;obtain⟨a,d⟩:=c.out;obtain⟨b,e⟩:=g.out;exact⟨Nat.le_trans g.fuel c.fuel,Nat.le_trans g.pay c.pay,Nat.le_trans c.cost g.cost,g.len.trans c.len,⟨l++m,by rw[h,i,List.append_assoc]⟩,⟨a++b,by rw[e,d,List.append_assoc]⟩⟩
def Goes{α:Type}(s:RS)(d:Nat):Res α->Prop
 | .ok _ t=>Mv s t/\t.fuel+d<=s.fuel/\t.spent=s.spent/\t.stat=s.stat
 | .fin t=>Mv s t
theorem Goes.ok{α:Type}(a:α)(s:RS):Goes s 0 (Res.ok a s):=⟨Mv.refl s,Nat.le_refl _,rfl,rfl⟩
theorem Goes.fin{α:Type}(s:RS)(d:Nat):Goes s d (Res.fin s:Res α):=Mv.refl s
theorem Goes.bind{α β:Type}{s:RS}{d e:Nat}{x:Res α}{f:α->RS->Res β}(h:Goes s d x)(g:∀a t,x=.ok a t->Goes t e (f a t)):Goes s (d+e) (x.bind f):=by
 cases x with
 | fin t=>exact h
 | ok a t=>
   have c:=g a t rfl;show Goes s (d+e) (f a t);cases hx:f a t with
   | fin u=>rw[hx]at c;exact h.1.trans c
   | ok b u=>rw[hx]at c;exact⟨h.1.trans c.1,by have:=h.2.1;have:=c.2.1;omega,c.2.2.1.trans h.2.2.1,c.2.2.2.trans h.2.2.2⟩
theorem Goes.le{α:Type}{s:RS}{d e:Nat}{x:Res α}(b:Goes s d x)(c:e<=d):Goes s e x:=by
 cases x with
 | fin t=>exact b
 | ok a t=>exact⟨b.1,by have:=b.2.1;omega,b.2.2⟩
structure Paid (s t:RS):Prop where
 fuel:t.fuel+1<=s.fuel
 pay:t.cost+t.fuel+1<=s.cost+s.fuel
 cost:s.cost<=t.cost
 len:t.arr.map List.length=s.arr.map List.length
 inp:∃l,s.inp=l++t.inp
 out:∃l,t.out=s.out++l
 idl:t.spent=s.spent/\t.stat=s.stat
theorem Paid.mv{s t:RS}(a:Paid s t):Mv s t:=⟨by have:=a.fuel;omega,by have:=a.pay;omega,a.cost,a.len,a.inp,a.out⟩
theorem Paid.trans{s t u:RS}(a:Paid s t)(g:Mv t u)(b:u.spent=t.spent/\u.stat=t.stat):Paid s u:=by
 have m:=a.mv.trans g;exact⟨by have:=a.fuel;have:=g.fuel;omega,by have:=a.pay;have:=g.pay;omega,m.cost,m.len,m.inp,m.out,b.1.trans a.idl.1,b.2.trans a.idl.2⟩
theorem Paid.done{s t:RS}(a:Paid s t):Mv s (zT t):=⟨by have:=a.fuel;show t.fuel<=_;omega,by have:=a.pay;show t.cost+1+t.fuel<=_;omega,by have:=a.cost;show s.cost<=t.cost+1;omega,a.len,a.inp,a.out⟩
theorem yM{s t:RS}(a:qI s=.ok () t):Paid s t:=by
 unfold qI at a;cases hf:s.fuel with
 | zero=>rw[hf]at a;cases a
 | succ f=>
   rw[hf]at a;injection a with _ a;subst a;exact⟨by rw[hf];exact Nat.le_refl _,by rw[hf];show s.cost+f+1<=_;omega,Nat.le_refl _,rfl,⟨[],rfl⟩,⟨[],(List.append_nil _).symm⟩,rfl,rfl⟩
theorem evStep_fin{s t:RS}(a:qI s=.fin t):Mv s t:=by
 unfold qI at a;cases hf:s.fuel with
 | zero=>
   rw[hf]at a;injection a with a;subst a;exact⟨Nat.zero_le _,by rw[hf];exact Nat.le_refl _,Nat.le_refl _,rfl,⟨[],rfl⟩,⟨[],(List.append_nil _).symm⟩⟩
 | succ f=>rw[hf]at a;cases a
theorem step_goes{α:Type}{s:RS}{f:RS->Res α}(b:∀t,Paid s t->Goes s 1 (f t)):Goes s 1 ((qI s).bind fun _ t=>f t):=by
 cases hx:qI s with
 | fin t=>exact evStep_fin hx
 | ok a t=>exact b t (yM hx)
theorem Paid.goes{α:Type}{s t:RS}{d:Nat}{x:Res α}(b:Paid s t)(g:Goes t d x):Goes s 1 x:=by
 cases x with
 | fin u=>exact b.mv.trans g
 | ok a u=>exact⟨b.mv.trans g.1,by have:=b.fuel;have:=g.2.1;omega,g.2.2.1.trans b.idl.1,g.2.2.2.trans b.idl.2⟩
theorem Paid.gone{α:Type}{s t:RS}{d:Nat}{x:Res α}(b:Paid s t)(g:Goes (zT t) d x):Goes s 1 x:=by
 cases x with
 | fin u=>exact b.done.trans g
 | ok a u=>exact⟨b.done.trans g.1,by have:=b.fuel;have:=g.2.1;have e:(zT t).fuel=t.fuel:=rfl;omega,g.2.2.1.trans b.idl.1,g.2.2.2.trans b.idl.2⟩
theorem ug(s:RS)(k:Int):Mv s (jq s k):=⟨Nat.le_refl _,Nat.le_refl _,Nat.le_refl _,rfl,⟨[],rfl⟩,⟨[],(List.append_nil _).symm⟩⟩
theorem y7(p:Pr)(name:ByteArray)(i:Int)(s:RS):Goes s 0 (ym p name i s):=by
 unfold ym;split
 .exact Goes.fin _ _
 .split
  .exact Goes.fin _ _
  .split
   .exact Goes.ok _ _
   .exact ug _ _
theorem y8(p:Pr)(name:ByteArray)(i n:Int)(s:RS):Goes s 0 (kY p name i n s):=by
 unfold kY;split
 .exact Goes.fin _ _
 .split
  .exact Goes.fin _ _
  .rename_i k _ _ l a
   split
   .refine⟨⟨Nat.le_refl _,Nat.le_refl _,Nat.le_refl _,?_,⟨[],rfl⟩,⟨[],(List.append_nil _).symm⟩⟩,Nat.le_refl _,rfl,rfl⟩
    show(s.arr.set k (l.set i.toNat n)).map List.length=_;rw[List.map_set,List.length_set];apply List.ext_getElem?;intro q;rw[List.getElem?_set];split
    .rename_i c
     subst c;split
     .rw[List.getElem?_map,a];rfl
     .rename_i b
      rw[List.length_map]at b;have:=(List.getElem?_eq_some_iff.1 a).1;omega
    .rfl
   .exact ug _ _
theorem xh(s:RS):Goes s 0 (xR s):=by
 unfold xR;split
 .exact ug _ _
 .rename_i n r a
  exact⟨⟨Nat.le_refl _,Nat.le_refl _,Nat.le_refl _,rfl,⟨[n],a⟩,⟨[],(List.append_nil _).symm⟩⟩,Nat.le_refl _,rfl,rfl⟩
theorem node_goes{p:Pr}{c:Fu->List Int->RS->Res Int}(b:∀f l t,Goes t 0 (c f l t)){vs:Vals}{k op n:Int}{name:ByteArray}{l:List Int}{s t:RS}(a:Paid s t):Goes s 1 (zw p c vs k op n name l t):=by
 unfold zw;split
 .exact a.goes (Goes.ok _ _)
 split
 .exact a.goes (Goes.ok _ _)
 split
 .exact a.gone (Goes.ok _ _)
 split
 .split
  .exact a.gone (Goes.ok _ _)
  .exact a.gone (d:=0) (show Mv _ _ from ug _ _)
 split
 .exact a.gone (y7 _ _ _ _)
 split
 .split
  .exact a.gone (b _ _ _)
  .exact a.goes (Goes.fin _ 0)
 .exact a.gone (xh _)
theorem evL_goes{f:Ex->RS->Res Int}(b:∀e s,Goes s 0 (f e s)):∀(l:List Ex) (s:RS),Goes s 0 (evL f l s)
 | [],s=>Goes.ok _ _
 | e::r,s=>by
   rw[evL];exact Goes.bind (d:=0) (e:=0) (b e s) fun a t _=>Goes.bind (d:=0) (e:=0) (evL_goes b r t) fun l u _=>Goes.ok _ _
theorem evLs_goes{f:Vals->St->RS->Res yL}(a:∀vs t s,Goes s 0 (f vs t s)):∀(l:List St) (vs:Vals) (s:RS),Goes s 0 (kx f vs l s)
 | [],vs,s=>Goes.ok _ _
 | t::r,vs,s=>by
   rw[kx];refine Goes.bind (d:=0) (e:=0) (a vs t s) fun b u _=>?_
   split
   .exact evLs_goes a r _ u
   .exact Goes.ok _ _
theorem kJ{f:Vals->St->RS->Res yL}(a:∀vs t s,Goes s 0 (f vs t s))(vs:Vals)(l:List St)(s:RS):Goes s 0 (qw f vs l s):=by
 unfold qw;exact Goes.bind (d:=0) (e:=0) (evLs_goes a l vs s) fun b t _=>Goes.ok _ _
theorem evW_goes{e:Vals->RS->Res Int}{b:Vals->RS->Res yL}(g:∀vs s,Goes s 0 (e vs s))(c:∀vs s,Goes s 0 (b vs s)):∀(k:Nat) (vs:Vals) (s:RS),Goes s 0 (evW e b k vs s)
 | 0,vs,s=>Goes.fin _ _
 | k+1,vs,s=>by
   rw[evW];refine Goes.bind (d:=0) (e:=0) (g vs s) fun a t _=>?_
   split
   .exact Goes.ok _ _
   .refine Goes.bind (d:=0) (e:=0) (c vs t) fun h u _=>?_
    split
    .exact Goes.ok _ _
    .split
     .exact Goes.ok _ _
     .exact evW_goes g c k _ u
theorem spent_mv(s:RS):Mv s { s with spent:=true }:=⟨Nat.le_refl _,Nat.le_refl _,Nat.le_refl _,rfl,⟨[],rfl⟩,⟨[],(List.append_nil _).symm⟩⟩
mutual
theorem qD(p:Pr):∀(g:Nat) (vs:Vals) (e:Ex) (s:RS),Goes s 1 (yA p g vs e s)
 | 0,vs,e,s=>by rw[yA];exact spent_mv s
 | g+1,vs,.mk k op n name args,s=>by
   have h:∀vs e s,Goes s 0 (yA p g vs e s):=fun vs e s=>(qD p g vs e s).le (Nat.zero_le _)
   have m:∀vs t s,Goes s 0 (j9 p g vs t s):=fun vs t s=>(qr p g vs t s).le (Nat.zero_le _)
   rw[yA];refine step_goes fun t i=>?_
   split
   .refine i.goes (d:=0+0) (Goes.bind (h _ _ t) fun a u _=>?_)
    split
    .exact Goes.ok _ _
    .exact h _ _ u
   .have b:=evL_goes (h vs) args t
    cases hx:evL (yA p g vs) args t with
    | fin u=>rw[hx]at b;exact i.mv.trans b
    | ok l u=>
      rw[hx]at b;exact node_goes (p:=p) (c:=fun f l s=>(qw (j9 p g) (evPar f l) f.body s).bind fun j s=>.ok j.2.1 s) (vs:=vs) (k:=k) (op:=op) (n:=n) (name:=name) (l:=l) (fun f l v=>Goes.bind (d:=0) (e:=0) (kJ m _ _ v) fun j x _=>Goes.ok _ _) (i.trans b.1 b.2.2)
theorem qr(p:Pr):∀(g:Nat) (vs:Vals) (t:St) (s:RS),Goes s 1 (j9 p g vs t s)
 | 0,vs,t,s=>by rw[j9];exact spent_mv s
 | g+1,vs,.mk k ty name args thn els,s=>by
   have j:∀vs e s,Goes s 0 (yA p g vs e s):=fun vs e s=>(qD p g vs e s).le (Nat.zero_le _)
   have l:∀vs t s,Goes s 0 (j9 p g vs t s):=fun vs t s=>(qr p g vs t s).le (Nat.zero_le _)
   rw[j9];refine step_goes fun t i=>?_
   split
   .exact i.goes (evW_goes (fun _ _=>j _ _ _) (fun _ _=>kJ l _ _ _) _ _ _)
   split
   .exact i.goes (Goes.ok _ _)
   split
   .exact i.goes (Goes.ok _ _)
   have c:=j vs (args.getD 0 jz) t;cases hx:yA p g vs (args.getD 0 jz) t with
   | fin u=>rw[hx]at c;exact i.mv.trans c
   | ok a u=>
     rw[hx]at c;have b:=i.trans c.1 c.2.2;show Goes s 1 (if k=1 then _ else _);split
     .exact b.goes (Goes.ok _ _)
     split
     .exact b.goes (Goes.ok _ _)
     split
     .have h:=j vs (args.getD 1 jz) u
      cases hy:yA p g vs (args.getD 1 jz) u with
      | fin v=>rw[hy]at h;exact b.mv.trans h
      | ok n v=>
        rw[hy]at h;show Goes s 1 ((kY p name a n (zT v)).bind fun _ s=>.ok (0,0,vs) s);exact(b.trans h.1 h.2.2).gone (d:=0+0) (Goes.bind (y8 _ _ _ _ _) fun _ x _=>Goes.ok _ _)
     split
     .split
      .exact b.goes (kJ l _ _ _)
      .exact b.goes (kJ l _ _ _)
     split
     .exact b.goes (Goes.ok _ _)
     split
     .refine b.gone (d:=0) ⟨⟨Nat.le_refl _,Nat.le_refl _,Nat.le_refl _,rfl,⟨[],rfl⟩,⟨[a],rfl⟩⟩,Nat.le_refl _,rfl,rfl⟩
     .exact b.goes (Goes.ok _ _)
end
def RS.more(m:Nat)(s:RS):RS:={ s with fuel:=s.fuel+m }
def More{α:Type}(m:Nat)(x b:Res α):Prop:=
 match x with
 | .ok a t=>b=.ok a (t.more m)
 | .fin t=>if t.spent=true then t.fuel=0/\(∃l,b.st.out=t.out++l)/\t.cost<=b.st.cost else b=.fin (t.more m)
def Tells{α:Type}(s:RS)(x:Res α):Prop:=(∃l,x.st.out=s.out++l)/\s.cost<=x.st.cost
theorem Goes.st{α:Type}{s:RS}{d:Nat}{x:Res α}(a:Goes s d x):Mv s x.st:=by
 cases x with
 | fin v=>exact a
 | ok b v=>exact a.1
theorem Goes.tells{α:Type}{s:RS}{d:Nat}{x:Res α}(a:Goes s d x):Tells s x:=⟨a.st.out,a.st.cost⟩
theorem Tells.pay{α:Type}{s:RS}{x:Res α}(a:Tells (zT s) x):Tells s x:=⟨a.1,Nat.le_trans (Nat.le_succ _) a.2⟩
theorem More.bind{α β:Type}{m:Nat}{x c:Res α}{f g:α->RS->Res β}(b:More m x c)(r:∀a t,x=.ok a t->More m (f a t) (g a (t.more m)))(v:∀a t,Tells t (g a t)):More m (x.bind f) (c.bind g):=by
 cases x with
 | ok a t=>
   have j:c=.ok a (t.more m):=b;rw[j];exact r a t rfl
 | fin t=>
   show More m (Res.fin t:Res β) (c.bind g);unfold More at b ⊢;dsimp only at b ⊢;split
   .rename_i d
    rw[if_pos d]at b;obtain⟨i,⟨l,h⟩,e⟩:=b;refine⟨i,?_⟩;cases c with
    | fin u=>exact⟨⟨l,h⟩,e⟩
    | ok a u=>
      have k:=v a u;have w:u.out=t.out++l:=h;have p:t.cost<=u.cost:=e;show(∃l,(g a u).st.out=t.out++l)/\t.cost<=(g a u).st.cost;obtain⟨⟨q,y⟩,o⟩:=k;exact⟨⟨l++q,by rw[y,w,List.append_assoc]⟩,Nat.le_trans p o⟩
   .rename_i d
    rw[if_neg d]at b;rw[b];rfl
theorem More.stop{α:Type}{m:Nat}{s t:RS}{y:Res α}(g:t.spent=true)(b:t.fuel=0)(d:t.out=s.out)(c:t.cost=s.cost)(a:Mv (s.more m) y.st):More m (.fin t) y:=by
 unfold More;dsimp only;rw[if_pos g];obtain⟨q,e⟩:=a.out;exact⟨b,⟨q,by rw[e,d];rfl⟩,by rw[c];exact a.cost⟩
theorem More.ok{α:Type}{m:Nat}{a:α}{s:RS}:More m (.ok a s) (.ok a (s.more m)):=rfl
theorem More.end{α:Type}{m:Nat}{s:RS}(a:s.spent=false):More m (.fin s:Res α) (.fin (s.more m)):=by
 unfold More;dsimp only;rw[if_neg Qm]
structure Mo {α:Type} (m g:Nat) (f f':RS->Res α):Prop where
 go:∀s,s.fuel<=g->s.spent=false->More m (f s) (f' (s.more m))
 a:∀s,Goes s 0 (f s)
 b:∀s,Goes s 0 (f' s)
theorem Goes.at{α:Type}{s t:RS}{d:Nat}{a:α}{x:Res α}(b:Goes s d x)(e:x=.ok a t):t.fuel+d<=s.fuel/\t.spent=s.spent:=by
 subst e;exact⟨b.2.1,b.2.2.1⟩
section
variable {α β:Type} {m g:Nat}
theorem Mo.bind{f i:RS->Res α}{k l:α->RS->Res β}(c:Mo m g f i)(h:∀a,Mo m g (k a) (l a)):Mo m g (fun s=>(f s).bind k) (fun s=>(i s).bind l):=
 ⟨fun s o j=>(c.go s o j).bind (fun a t e=>(h a).go t (by have:=((c.a s).at e).1;omega) (((c.a s).at e).2.trans j)) (fun a t=>((h a).b t).tells),
  fun s=>Goes.bind (d:=0) (e:=0) (c.a s) fun a t _=>(h a).a t,fun s=>Goes.bind (d:=0) (e:=0) (c.b s) fun a t _=>(h a).b t⟩
theorem Mo.ok(a:α):Mo m g (fun s=>.ok a s) (fun s=>.ok a s):=⟨fun _ _ _=>More.ok,fun _=>Goes.ok _ _,fun _=>Goes.ok _ _⟩
theorem Mo.ite{c:Prop}[Decidable c]{f a k d:RS->Res α}(e:Mo m g f a)(h:Mo m g k d):Mo m g (fun s=>if c then f s else k s) (fun s=>if c then a s else d s):=by
 by_cases b:c
 .simp only[if_pos b];exact e
 .simp only[if_neg b];exact h
end
section
variable {m g:Nat}
theorem evL_mo{f b:Ex->RS->Res Int}(c:∀e,Mo m g (f e) (b e)):∀l,Mo m g (evL f l) (evL b l)
 | []=>Mo.ok []
 | e::r=>Mo.bind (c e) fun a=>Mo.bind (evL_mo c r) fun l=>Mo.ok (a::l)
theorem evLs_mo{f b:Vals->St->RS->Res yL}(d:∀vs t,Mo m g (f vs t) (b vs t)):∀(l:List St) (vs:Vals),Mo m g (kx f vs l) (kx b vs l)
 | [],vs=>Mo.ok (0,0,vs)
 | t::r,vs=>Mo.bind (d vs t) fun a=>Mo.ite (c:=a.1=0) (evLs_mo d r a.2.2) (Mo.ok a)
theorem evBk_mo{f b:Vals->St->RS->Res yL}(c:∀vs t,Mo m g (f vs t) (b vs t))(vs:Vals)(l:List St):Mo m g (qw f vs l) (qw b vs l):=
 Mo.bind (evLs_mo c l vs) fun a=>Mo.ok (a.1,a.2.1,a.2.2.take vs.length)
theorem evW_more{e q:Vals->RS->Res Int}{b l:Vals->RS->Res yL}(j:∀vs,Mo m g (e vs) (q vs))(r:∀vs s,Goes s 1 (e vs s))(c:∀vs,Mo m g (b vs) (l vs)):
 ∀(k h:Nat) (vs:Vals) (s:RS),s.fuel<k->k<=h->s.fuel<=g->s.spent=false->More m (evW e b k vs s) (evW q l h vs (s.more m))
 | 0,_,_,_,hs,_,_,_=>absurd hs (Nat.not_lt_zero _)
 | k+1,0,_,_,_,hk,_,_=>absurd hk (Nat.not_succ_le_zero _)
 | k+1,h+1,vs,s,hs,hk,hg,hp=>by
   rw[evW,evW];refine((j vs).go s hg hp).bind (fun a t z=>?_) fun a t=>?_
   .have x:=(r vs s).at z
    have w:=x.2.trans hp;by_cases v:a=0
    .simp only[if_pos v];exact More.ok
    .simp only[if_neg v]
     refine((c vs).go t I7 w).bind (fun i u A=>?_) fun i u=>?_
     .have y:=((c vs).a t).at A
      by_cases p:i.1=3
      .simp only[if_pos p];exact More.ok
      .simp only[if_neg p]
       by_cases o:i.1=1
       .simp only[if_pos o];exact More.ok
       .simp only[if_neg o]
        exact evW_more j r c k h i.2.2 u I7 I7 I7 (y.2.trans w)
     .refine Goes.tells (d:=0) ?_
      exact O4
   .refine Goes.tells (d:=0) ?_
    split
    .exact Goes.ok _ _
    .refine Goes.bind (d:=0) (e:=0) ((c vs).b t) fun i u _=>?_
     exact O4
theorem pay_more{α:Type}{f a:RS->Res α}(b:Mo m g f a){s:RS}(d:s.fuel<=g)(c:s.spent=false):More m (f (zT s)) (a (zT (s.more m))):=b.go (zT s) d c
theorem evIdx_mo(p:Pr)(name:ByteArray)(i:Int):Mo m g (ym p name i) (ym p name i):=by
 refine⟨fun s _ a=>?_,y7 p name i,y7 p name i⟩;unfold ym;show More m _ (match zb p.arrays name with|none=>_|some k=>match s.arr[k]? with|none=>_|some l=>_);cases zb p.arrays name with
 | none=>exact More.end a
 | some k=>
   exact O3
theorem evPut_mo(p:Pr)(name:ByteArray)(i n:Int):Mo m g (kY p name i n) (kY p name i n):=by
 refine⟨fun s _ a=>?_,y8 p name i n,y8 p name i n⟩;unfold kY;show More m _ (match zb p.arrays name with|none=>_|some k=>match s.arr[k]? with|none=>_|some l=>_);cases zb p.arrays name with
 | none=>exact More.end a
 | some k=>
   exact O3
theorem evRead_mo:Mo m g xR xR:=by
 refine⟨fun s _ a=>?_,xh,xh⟩;unfold xR;show More m _ (match s.inp with | []=>_|n::r=>_);cases s.inp with
 | nil=>exact More.end (s:=jq s 4) a
 | cons n r=>exact More.ok
theorem node_more{p:Pr}{c d:Fu->List Int->RS->Res Int}(e:∀f l,Mo m g (c f l) (d f l))(vs:Vals)(k op n:Int)(name:ByteArray)(l:List Int){s:RS}(b:s.fuel<=g)(a:s.spent=false):
 More m (zw p c vs k op n name l s) (zw p d vs k op n name l (s.more m)):=by
 unfold zw;split
 .exact More.ok
 split
 .exact More.ok
 split
 .exact More.ok (s:=zT s)
 split
 .split
  .exact More.ok (s:=zT s)
  .exact More.end (s:=jq (zT s) 2) a
 split
 .exact pay_more (evIdx_mo p name _) b a
 split
 .cases jH p name with
  | none=>exact More.end a
  | some f=>exact pay_more (e f l) b a
 .exact pay_more evRead_mo b a
theorem node_tells{p:Pr}{c:Fu->List Int->RS->Res Int}(a:∀f l t,Goes t 0 (c f l t))(vs:Vals)(k op n:Int)(name:ByteArray)(l:List Int)(s:RS):Tells s (zw p c vs k op n name l s):=by
 unfold zw;split
 .exact(Goes.ok _ _).tells
 split
 .exact(Goes.ok _ _).tells
 split
 .exact(Goes.ok _ _).tells.pay
 split
 .split
  .exact(Goes.ok _ _).tells.pay
  .exact(Goes.tells (d:=0) (show Goes (zT s) 0 (.fin _:Res Int)from ug _ _)).pay
 split
 .exact(y7 _ _ _ _).tells.pay
 split
 .split
  .exact(a _ _ _).tells.pay
  .exact(Goes.fin s 0).tells
 .exact(xh _).tells.pay
theorem step_more{α:Type}{f a:RS->Res α}{y:Res α}{s:RS}(d:s.spent=false)(g:y=(qI (s.more m)).bind fun _ t=>a t)(c:Mv (s.more m) y.st)(b:∀t,t.fuel+1=s.fuel->t.spent=false->More m (f t) (a (t.more m))):
 More m ((qI s).bind fun _ t=>f t) y:=by
 unfold qI;cases hf:s.fuel with
 | zero=>exact More.stop (s:=s) rfl rfl rfl rfl c
 | succ k=>
   subst g;have e:(s.more m).fuel=(k+m)+1:=by show s.fuel+m=_;omega
   unfold qI;rw[e];exact b { s with fuel:=k } (by rw[hf]) d
end
theorem spent_more{α:Type}{m:Nat}{s:RS}{y:Res α}(a:s.fuel=0)(b:Mv (s.more m) y.st):More m (.fin { s with spent:=true }) y:=More.stop (s:=s) rfl a rfl rfl b
mutual
theorem evE_mo(p:Pr)(m:Nat):∀(g h:Nat) (vs:Vals) (e:Ex),g<=h->Mo m g (yA p g vs e) (yA p h vs e)
 | 0,h,vs,e,_=>⟨fun s B _=>by rw[yA];exact spent_more I7 (qD p h vs e (s.more m)).st,fun s=>(qD p 0 vs e s).le (Nat.zero_le _),fun s=>(qD p h vs e s).le (Nat.zero_le _)⟩
 | g+1,0,_,_,i=>absurd i (Nat.not_succ_le_zero _)
 | g+1,h+1,vs,.mk k op n name args,i=>by
   have j:∀vs e,Mo m g (yA p g vs e) (yA p h vs e):=fun vs e=>evE_mo p m g h vs e (Nat.le_of_succ_le_succ i)
   have r:∀vs t,Mo m g (j9 p g vs t) (j9 p h vs t):=fun vs t=>evS_mo p m g h vs t (Nat.le_of_succ_le_succ i)
   refine⟨fun s B A=>?_,fun s=>(qD p _ vs _ s).le (Nat.zero_le _),fun s=>(qD p _ vs _ s).le (Nat.zero_le _)⟩;rw[yA];refine step_more A (by rw[yA]) (qD p _ vs _ _).st fun t D o=>?_
   have y:t.fuel<=g:=I7
   by_cases w:k=5/\(op=18\/op=19)
   .simp only[if_pos w]
    exact(Mo.bind (j vs (args.getD 0 jz)) fun a=>Mo.ite (c:=decide (a≠0)=decide (op=19)) (Mo.ok a) (j vs (args.getD 1 jz))).go t y o
   .simp only[if_neg w]
    have q:=evL_mo (j vs) args;refine(q.go t y o).bind (fun l u C=>?_) fun l u=>?_
    .have z:=(q.a t).at C
     exact node_more (fun f l=>Mo.bind (evBk_mo r (evPar f l) f.body) fun i=>Mo.ok i.2.1) vs k op n name l I7 (z.2.trans o)
    .exact node_tells (fun f l v=>Goes.bind (d:=0) (e:=0) (kJ (fun vs t s=>(r vs t).b s) _ _ v) fun i x _=>Goes.ok _ _) vs k op n name l u
theorem evS_mo(p:Pr)(m:Nat):∀(g i:Nat) (vs:Vals) (t:St),g<=i->Mo m g (j9 p g vs t) (j9 p i vs t)
 | 0,i,vs,e,_=>⟨fun s S _=>by rw[j9];exact spent_more I7 (qr p i vs e (s.more m)).st,fun s=>(qr p 0 vs e s).le (Nat.zero_le _),fun s=>(qr p i vs e s).le (Nat.zero_le _)⟩
 | g+1,0,_,_,h=>absurd h (Nat.not_succ_le_zero _)
 | g+1,i+1,vs,.mk k ty name args thn els,h=>by
   have z:∀vs e,Mo m g (yA p g vs e) (yA p i vs e):=fun vs e=>evE_mo p m g i vs e (Nat.le_of_succ_le_succ h)
   have B:∀vs t,Mo m g (j9 p g vs t) (j9 p i vs t):=fun vs t=>evS_mo p m g i vs t (Nat.le_of_succ_le_succ h)
   refine⟨fun s S Q=>?_,fun s=>(qr p _ vs _ s).le (Nat.zero_le _),fun s=>(qr p _ vs _ s).le (Nat.zero_le _)⟩;rw[j9];refine step_more Q (by rw[j9]) (qr p _ vs _ _).st fun t U j=>?_
   have o:t.fuel<=g:=I7
   by_cases H:k=5
   .simp only[if_pos H]
    exact evW_more (fun vs=>z vs _) (fun vs s=>qD p g vs _ s) (fun vs=>evBk_mo B vs thn) _ _ vs t (Nat.lt_succ_self _) (by show t.fuel+1<=t.fuel+m+1;omega) o j
   simp only[if_neg H];by_cases I:k=6
   .simp only[if_pos I];exact More.ok
   simp only[if_neg I];by_cases J:k=7
   .simp only[if_pos J];exact More.ok
   simp only[if_neg J];have r:=z vs (args.getD 0 jz);by_cases D:k=1
   .simp only[if_pos D];exact(Mo.bind r fun a=>Mo.ok _).go t o j
   simp only[if_neg D];by_cases E:k=2
   .simp only[if_pos E];exact(Mo.bind r fun a=>Mo.ok _).go t o j
   simp only[if_neg E];by_cases F:k=3
   .simp only[if_pos F]
    have A:=z vs (args.getD 1 jz);have M:∀a n u,Tells u ((kY p name a n (zT u)).bind fun _ s=>(.ok (0,0,vs) s:Res yL)):=fun a n u=>(Goes.bind (d:=0) (e:=0) (y8 p name a n (zT u)) fun _ x _=>Goes.ok _ _).tells.pay
    refine(r.go t o j).bind (fun a u N=>?_) fun a u=>?_
    .have y:=(r.a t).at N
     refine(A.go u I7 (y.2.trans j)).bind (fun n v T=>?_) fun n v=>M a n v
     have C:=(A.a u).at T;exact pay_more (Mo.bind (evPut_mo p name a n) fun _=>Mo.ok (0,0,vs)) (s:=v) (Nat.le_trans C.1 (Nat.le_trans y.1 o)) (C.2.trans (y.2.trans j))
    .have w:=(A.b u)
     cases hx:yA p i vs (args.getD 1 jz) u with
     | fin v=>rw[hx]at w;exact(Goes.tells (d:=0) (show Goes u 0 (.fin v:Res yL)from w))
     | ok n v=>
       rw[hx]at w;obtain⟨⟨l,P⟩,O⟩:=M a n v;obtain⟨q,R⟩:=w.1.out;exact⟨⟨q++l,by show((kY p name a n (zT v)).bind _).st.out=_;rw[P,R,List.append_assoc]⟩,Nat.le_trans w.1.cost O⟩
   simp only[if_neg F];by_cases G:k=4
   .simp only[if_pos G]
    exact(Mo.bind r fun a=>Mo.ite (c:=a≠0) (evBk_mo B vs thn) (evBk_mo B vs els)).go t o j
   simp only[if_neg G];by_cases K:k=8
   .simp only[if_pos K];exact(Mo.bind r fun a=>Mo.ok _).go t o j
   simp only[if_neg K];by_cases L:k=9
   .simp only[if_pos L]
    refine(r.go t o j).bind (fun a u N=>?_) fun a u=>⟨⟨[a],rfl⟩,Nat.le_succ _⟩
    exact(rfl:_=_)
   simp only[if_neg L];exact(Mo.bind r fun a=>Mo.ok _).go t o j
end
inductive PR (α:Type) where
 | ok (a:α) (r:List Tok)
 | bad (r:List Tok)
 | deep (r:List Tok)
 | out
def PR.bind{α β:Type}(x:PR α)(f:α->List Tok->PR β):PR β:=
 match x with
 | .ok a r=>f a r
 | .bad r=>.bad r
 | .deep r=>.deep r
 | .out=>.out
def ze(s:List UInt8)(l:List Tok):Bool:=match l with|t::_=>decide (t.kind=2) && t.text == s | []=>false
def uO(l:List Tok):Int:=match l with|t::_=>t.kind | []=>3
def hdT(l:List Tok):List UInt8:=match l with|t::_=>t.text | []=>[]
def zN(s:List UInt8)(l:List Tok):PR Unit:=if ze s l then .ok () l.tail else .bad l
def want(k:Int)(l:List Tok):PR ByteArray:=if uO l=k then .ok ⟨(hdT l).toArray⟩ l.tail else .bad l
def sgT(op:Int):List UInt8:=(jh op).data.toList
def kg(lev:Int)(l:List Tok):List Int->Int
 | []=>0
 | op::r=>if jZ op=lev/\ze (sgT op) l=true then op else kg lev l r
def twos:List Int:=[1,2,3,4,5,6,7,8,9,10,11,12,13,14,15,16,17,18,19]
def ones:List Int:=[20,21,22,23,24,25,26,27,28]
def opAt(lev:Int)(l:List Tok):Int:=kg lev l twos
def xD(l:List Tok):List Int->Int
 | []=>0
 | op::r=>if ze (sgT op) l=true then op else xD l r
def unAt(l:List Tok):Int:=xD l ones
def bE:ByteArray:=⟨#[]⟩
def uh:List UInt8:=[116,114,117,101]
def vE:List UInt8:=[102,97,108,115,101]
def sRead:List UInt8:=[114,101,97,100]
def sInt:List UInt8:=[105,110,116]
def kZ:List UInt8:=[98,111,111,108]
def sIf:List UInt8:=[105,102]
def sElse:List UInt8:=[101,108,115,101]
def y9:List UInt8:=[119,104,105,108,101]
def ui:List UInt8:=[98,114,101,97,107]
def sCont:List UInt8:=[99,111,110,116,105,110,117,101]
def sRet:List UInt8:=[114,101,116,117,114,110]
def sPrint:List UInt8:=[112,114,105,110,116]
mutual
def pE:Nat->Int->Int->List Tok->PR Ex
 | 0,_,_,_=>.out
 | n+1,lev,d,l=>if 10<lev then pU n d l else(pE n (lev+1) d l).bind fun a r=>pL n lev d a r
def pL:Nat->Int->Int->Ex->List Tok->PR Ex
 | 0,_,_,_,_=>.out
 | n+1,lev,d,a,l=>if opAt lev l=0 then .ok a l else(pE n (lev+1) d l.tail).bind fun b r=>pL n lev d (.mk 5 (opAt lev l) 0 bE [a,b]) r
def pU:Nat->Int->List Tok->PR Ex
 | 0,_,_=>.out
 | n+1,d,l=>
   if 100<d then .deep l
   else if unAt l=0 then pP n d l
   else if 23<=unAt l then(zN [40] l.tail).bind fun _ r=>(pE n 1 (d+1) r).bind fun e r=>(zN [41] r).bind fun _ r=>.ok (.mk 4 (unAt l) 0 bE [e]) r
   else(pU n (d+1) l.tail).bind fun e r=>.ok (.mk 4 (unAt l) 0 bE [e]) r
def pP:Nat->Int->List Tok->PR Ex
 | 0,_,_=>.out
 | n+1,d,l=>
   if ze [40] l=true then(pE n 1 (d+1) l.tail).bind fun e r=>(zN [41] r).bind fun _ r=>.ok e r
   else if ze uh l=true then .ok (.mk 2 0 1 bE []) l.tail
   else if ze vE l=true then .ok (.mk 2 0 0 bE []) l.tail
   else if ze sRead l=true then(zN [40] l.tail).bind fun _ r=>(zN [41] r).bind fun _ r=>.ok (.mk 8 0 0 bE []) r
   else if uO l=0 then .ok (.mk 1 0 (jj 0 (hdT l)) bE []) l.tail
   else(want 1 l).bind fun s r=>pN n d s r
def pN:Nat->Int->ByteArray->List Tok->PR Ex
 | 0,_,_,_=>.out
 | n+1,d,s,l=>
   if ze [40] l=true then(pA n (d+1) l.tail).bind fun a r=>.ok (.mk 7 0 0 s a) r
   else if ze [91] l=true then(pE n 1 (d+1) l.tail).bind fun e r=>(zN [93] r).bind fun _ r=>.ok (.mk 6 0 0 s [e]) r
   else .ok (.mk 3 0 0 s []) l
def pA:Nat->Int->List Tok->PR (List Ex)
 | 0,_,_=>.out
 | n+1,d,l=>if ze [41] l=true then .ok [] l.tail else pAL n d [] l
def pAL:Nat->Int->List Ex->List Tok->PR (List Ex)
 | 0,_,_,_=>.out
 | n+1,d,acc,l=>(pE n 1 d l).bind fun e r=>if ze [44] r=true then pAL n d (acc++[e]) r.tail else(zN [41] r).bind fun _ r=>.ok (acc++[e]) r
end
def pI(n:Nat)(l:List Tok):PR Ex:=(zN [40] l).bind fun _ r=>(pE n 1 1 r).bind fun e r=>(zN [41] r).bind fun _ r=>.ok e r
def pTy(l:List Tok):PR Int:=if ze sInt l=true then .ok 1 l.tail else(zN kZ l).bind fun _ r=>.ok 2 r
def ya{α:Type}(x:PR α):PR α:=x.bind fun a r=>(zN [59] r).bind fun _ r=>.ok a r
def pNm(n:Nat)(l:List Tok):PR St:=(want 1 l).bind fun s r=>
 if ze [40] r=true then(pA n 2 r.tail).bind fun a r=>.ok (.mk 10 0 bE [.mk 7 0 0 s a] [] []) r
 else if ze [91] r=true then(pE n 1 1 r.tail).bind fun e r=>(zN [93] r).bind fun _ r=>(zN [61] r).bind fun _ r=>(pE n 1 1 r).bind fun f r=>.ok (.mk 3 0 s [e,f] [] []) r
 else(zN [61] r).bind fun _ r=>(pE n 1 1 r).bind fun e r=>.ok (.mk 2 0 s [e] [] []) r
mutual
def pS:Nat->Int->List Tok->PR St
 | 0,_,_=>.out
 | n+1,d,l=>
   if 100<d then .deep l
   else if ze sInt l=true\/ze kZ l=true then ya ((pTy l).bind fun t r=>(want 1 r).bind fun s r=>(zN [61] r).bind fun _ r=>(pE n 1 1 r).bind fun e r=>.ok (.mk 1 t s [e] [] []) r)
   else if ze sIf l=true then(pI n l.tail).bind fun e r=>(pB n (d+1) r).bind fun t r=>pEl n d e t r
   else if ze y9 l=true then(pI n l.tail).bind fun e r=>(pB n (d+1) r).bind fun t r=>.ok (.mk 5 0 bE [e] t []) r
   else if ze ui l=true then ya (.ok (.mk 6 0 bE [] [] []) l.tail)
   else if ze sCont l=true then ya (.ok (.mk 7 0 bE [] [] []) l.tail)
   else if ze sRet l=true then ya ((pE n 1 1 l.tail).bind fun e r=>.ok (.mk 8 0 bE [e] [] []) r)
   else if ze sPrint l=true then ya ((pI n l.tail).bind fun e r=>.ok (.mk 9 0 bE [e] [] []) r)
   else ya (pNm n l)
def pEl:Nat->Int->Ex->List St->List Tok->PR St
 | 0,_,_,_,_=>.out
 | n+1,d,e,t,l=>if ze sElse l=true then(pB n (d+1) l.tail).bind fun u r=>.ok (.mk 4 0 bE [e] t u) r else .ok (.mk 4 0 bE [e] t []) l
def pB:Nat->Int->List Tok->PR (List St)
 | 0,_,_=>.out
 | n+1,d,l=>(zN [123] l).bind fun _ r=>pBL n d [] r
def pBL:Nat->Int->List St->List Tok->PR (List St)
 | 0,_,_,_=>.out
 | n+1,d,acc,l=>if ze [125] l=true then .ok acc l.tail else(pS n d l).bind fun s r=>pBL n d (acc++[s]) r
end
def pPL:Nat->List Pa->List Tok->PR (List Pa)
 | 0,_,_=>.out
 | n+1,acc,l=>(pTy l).bind fun t r=>(want 1 r).bind fun s r=>if ze [44] r=true then pPL n (acc++[⟨s,t⟩]) r.tail else(zN [41] r).bind fun _ r=>.ok (acc++[⟨s,t⟩]) r
def pPs(n:Nat)(l:List Tok):PR (List Pa):=(zN [40] l).bind fun _ r=>if ze [41] r=true then .ok [] r.tail else pPL n [] r
def pFn(n:Nat)(t:Int)(s:ByteArray)(l:List Tok):PR Fu:=(pPs n l).bind fun ps r=>(pB n 1 r).bind fun b r=>.ok ⟨s,t,ps,b⟩ r
def pArr(s:ByteArray)(l:List Tok):PR Ar:=(want 0 l).bind fun t r=>(zN [93] r).bind fun _ r=>(zN [59] r).bind fun _ r=>.ok ⟨s,jj 0 t.data.toList⟩ r
def pPr:Nat->Pr->List Tok->PR Pr
 | 0,_,_=>.out
 | n+1,p,l=>if uO l=3 then .ok p l else(pTy l).bind fun t r=>(want 1 r).bind fun s r=>
    if t=1/\p.funcs=[]/\ze [91] r=true then(pArr s r.tail).bind fun a r=>pPr n ⟨p.arrays++[a],p.funcs⟩ r
    else(pFn n t s r).bind fun f r=>pPr n ⟨p.arrays,p.funcs++[f]⟩ r
end Go.Proofs.YthcmenajdcbnnaaGreatDoor
