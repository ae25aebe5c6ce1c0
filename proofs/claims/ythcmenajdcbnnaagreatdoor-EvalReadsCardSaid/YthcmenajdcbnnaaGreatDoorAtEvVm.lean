import Derived.Test.YthcmenajdcbnnaaGreatDoorAtParBlk
set_option linter.unusedSimpArgs false
set_option linter.unusedVariables false
set_option maxRecDepth 100000
/- A machine for programs, plain: its instructions, what is written for expressions and statements, its steps. No Go, no program. -/
namespace Go.Proofs.YthcmenajdcbnnaaGreatDoor
open Lib (hid)
open Go.RowKit
theorem Ou{p:Prop}(h:p:=by
 simp only[Bool.and_eq_true,decide_eq_true_eq]at a;rw[yg a.1.1.2];simp only[List.length_append,List.length_cons,List.length_nil];omega):p:=h
theorem Ov{p:Prop}(h:p:=by
 obtain⟨_,_,_,a⟩:=qG a;injection a with a _;rw[<-a,cntS,cntSs];omega):p:=h
inductive Ins where
 | beg
 | app (e:Ex)
 | fin (t:St)
 | jmp (to:Nat)
 | unl (to:Nat)
 | lzy (z:Bool) (to:Nat)
 | ent
 | lve
mutual
def zg:Ex->Nat
 | .mk _ _ _ _ args=>zE args+2
def zE:List Ex->Nat
 | []=>0
 | e::r=>zg e+zE r
end
mutual
def xp:Ex->Nat->List Ins
 | .mk k op n name args,b=>
   if k=5/\(op=18\/op=19)then .beg::genZ args (b+1) (decide (op=18))
   else .beg::(zv args (b+1)++[.app (.mk k op n name args)])
def zv:List Ex->Nat->List Ins
 | [],_=>[]
 | e::r,b=>xp e b++zv r (b+zg e)
def genZ:List Ex->Nat->Bool->List Ins
 | [],_,z=>[.lzy z 0]
 | e::r,b,z=>xp e b++.lzy z (b+zg e+1+zE r)::zv r (b+zg e+1)
end
mutual
theorem xH:∀(e:Ex) (b:Nat),(xp e b).length=zg e
 | .mk k op n name args,b=>by
   rw[xp,zg];split
   .rw[List.length_cons,genZ_len]
   .rw[List.length_cons,List.length_append,qZ];rfl
theorem qZ:∀(l:List Ex) (b:Nat),(zv l b).length=zE l
 | [],_=>rfl
 | e::r,b=>by rw[zv,zE,List.length_append,xH,qZ]
theorem genZ_len:∀(l:List Ex) (b:Nat) (z:Bool),(genZ l b z).length=zE l+1
 | [],_,_=>rfl
 | e::r,b,z=>by rw[genZ,zE,List.length_append,List.length_cons,xH,qZ];omega
end
def isLt:St->Bool
 | .mk k _ _ _ _ _=>decide (k=1)
def xq(l:List St):Bool:=l.any isLt
def lB(l:List St)(f:Nat->Nat)(d:Nat):Nat:=if xq l then f (d+1)+2 else f d
def gB(l:List St)(f:Nat->Nat->List Ins)(b d:Nat):List Ins:=if xq l then .ent::(f (b+1) (d+1)++[.lve])else f b d
mutual
def kn:St->Nat->Nat
 | .mk k _ _ args thn els,d=>
   if k=4 then zE args+3+lB thn (lenTs thn) d+lB els (lenTs els) d
   else if k=5 then zE args+3+lB thn (lenTs thn) 0
   else if k=6\/k=7 then d+2
   else zE args+2
def lenTs:List St->Nat->Nat
 | [],_=>0
 | t::r,d=>kn t d+lenTs r d
end
mutual
def kN:St->Nat->Nat->Nat->Nat->List Ins
 | .mk k ty name args thn els,b,d,st,br=>
   if k=4 then .beg::(zv args (b+1)++.unl (b+zE args+3+lB thn (lenTs thn) d)::(gB thn (fun b d=>qH thn b d st br) (b+zE args+2) d++
    .jmp (b+zE args+3+lB thn (lenTs thn) d+lB els (lenTs els) d)::gB els (fun b d=>qH els b d st br) (b+zE args+3+lB thn (lenTs thn) d) d))
   else if k=5 then .beg::(zv args (b+1)++.unl (b+zE args+3+lB thn (lenTs thn) 0)::(gB thn (fun c d=>qH thn c d (b+1) (b+zE args+3+lB thn (lenTs thn) 0)) (b+zE args+2) 0++[.jmp (b+1)]))
   else if k=6 then .beg::(List.replicate d .lve++[.jmp br])
   else if k=7 then .beg::(List.replicate d .lve++[.jmp st])
   else .beg::(zv args (b+1)++[.fin (.mk k ty name args thn els)])
def qH:List St->Nat->Nat->Nat->Nat->List Ins
 | [],_,_,_,_=>[]
 | t::r,b,d,st,br=>kN t b d st br++qH r (b+kn t d) d st br
end
def qA(l:List St)(d:Nat):Nat:=lB l (lenTs l) d
def jw(l:List St)(b d st a:Nat):List Ins:=gB l (fun b d=>qH l b d st a) b d
theorem gB_len{l:List St}{f:Nat->Nat->List Ins}{g:Nat->Nat}(a:∀b d,(f b d).length=g d)(b d:Nat):(gB l f b d).length=lB l g d:=by
 unfold gB lB;split
 .simp[a]
 .exact a b d
mutual
theorem genT_len:∀(t:St) (b d st a:Nat),(kN t b d st a).length=kn t d
 | .mk k ty name args thn els,b,d,st,a=>by
   rw[kN,kn];split
   .simp only[List.length_cons,List.length_append,qZ,gB_len (fun b d=>jL thn b d st a),gB_len (fun b d=>jL els b d st a)];omega
   split
   .simp only[List.length_cons,List.length_append,qZ,gB_len (fun c d=>jL thn c d _ _),List.length_nil];omega
   split
   .rw[if_pos I7];simp
   split
   .rw[if_pos I7];simp
   .rw[if_neg I7];simp[qZ]
theorem jL:∀(l:List St) (b d st a:Nat),(qH l b d st a).length=lenTs l d
 | [],_,_,_,_=>rfl
 | t::r,b,d,st,a=>by rw[qH,lenTs,List.length_append,genT_len,jL]
end
theorem genB_len(l:List St)(b d st a:Nat):(jw l b d st a).length=qA l d:=gB_len (fun b d=>jL l b d st a) b d
def genF(f:Fu):List Ins:=qH f.body 0 0 0 0
structure Fr where
 code:List Ins
 pl:Nat
 vs:Vals
 o:List Nat
structure Vm where
 s:RS
 v:List Int
 cs:List Fr
inductive VR where
 | go (m:Vm)
 | stop (c:Option Int) (s:RS)
 | bad
def vmApp(p:Pr)(k op n:Int)(name:ByteArray)(a:Nat)(s:RS)(v:List Int)(c:Fr)(r:List Fr):VR:=
 if v.length<a\/zj k op n name a=false then .bad
 else if k=7 then(match jH p name with
  | some f=>if f.params.length=a then .go ⟨zT s,v.take (v.length-a),⟨genF f,0,evPar f (v.drop (v.length-a)),[]⟩::c::r⟩else .bad
  | none=>.bad)
 else if(k=3/\kB c.vs name=none)\/(k=6/\zb p.arrays name=none)then .bad
 else match zw p (fun _ _ s=>.fin s) c.vs k op n name (v.drop (v.length-a)) s with
  | .ok x t=>.go ⟨t,v.take (v.length-a)++[x],c::r⟩
  | .fin t=>.stop none t
def retV(v:List Int)(r:List Fr)(n:Int)(t:RS):VR:=match r with
 | []=>.stop (some n) t
 | c::q=>.go ⟨t,v++[n],c::q⟩
def vmFin(p:Pr)(k:Int)(name:ByteArray)(s:RS)(v:List Int)(c:Fr)(r:List Fr):VR:=
 match v.getLast? with
 | none=>.bad
 | some x=>
   if k<=3/\vd name=false then .bad
   else if k=1 then .go ⟨s,v.dropLast,{ c with vs:=c.vs++[(name,x)] } :: r⟩
   else if k=2 then(if kB c.vs name=none then .bad else .go ⟨s,v.dropLast,{ c with vs:=y6 c.vs name x } :: r⟩)
   else if k=3 then(match v.dropLast.getLast? with
    | none=>.bad
    | some i=>if zb p.arrays name=none then .bad else match kY p name i x (zT s)with
      | .ok _ t=>.go ⟨t,v.dropLast.dropLast,c::r⟩
      | .fin t=>.stop none t)
   else if k=8 then retV v.dropLast r x s
   else if k=9 then .go ⟨{ zT s with out:=s.out++[x] },v.dropLast,c::r⟩
   else if k=10 then .go ⟨s,v.dropLast,c::r⟩
   else .bad
def xP(p:Pr)(x:Ins)(s:RS)(v:List Int)(c:Fr)(r:List Fr):VR:=match x with
 | .beg=>match qI s with
   | .ok _ t=>.go ⟨t,v,c::r⟩
   | .fin t=>.stop none t
 | .app (.mk k op n name args)=>vmApp p k op n name args.length s v c r
 | .fin (.mk k _ name _ _ _)=>vmFin p k name s v c r
 | .jmp t=>.go ⟨s,v,{ c with pl:=t } :: r⟩
 | .unl t=>match v.getLast? with
   | none=>.bad
   | some n=>.go ⟨s,v.dropLast,(if n=0 then { c with pl:=t } else c)::r⟩
 | .lzy z t=>match v.getLast? with
   | none=>.bad
   | some n=>if decide (n=0)=z then .go ⟨s,v,{ c with pl:=t } :: r⟩else .go ⟨s,v.dropLast,c::r⟩
 | .ent=>.go ⟨s,v,{ c with o:=c.o++[c.vs.length] } :: r⟩
 | .lve=>match c.o.getLast? with
   | none=>.bad
   | some n=>.go ⟨s,v,{ c with vs:=c.vs.take n,o:=c.o.dropLast } :: r⟩
structure Lm (K:Nat) (s:RS) (v:List Int) (vs:Vals) (o:List Nat):Prop where
 v:v.length+s.fuel<=K
 c:s.cost+s.fuel<=K
 vs:vs.length+s.fuel<=K
 o:o.length<=100
instance (K:Nat) (s:RS) (v:List Int) (vs:Vals) (o:List Nat):Decidable (Lm K s v vs o):=
 decidable_of_iff (v.length+s.fuel<=K/\s.cost+s.fuel<=K/\vs.length+s.fuel<=K/\o.length<=100) ⟨fun h=>⟨h.1,h.2.1,h.2.2.1,h.2.2.2⟩,fun h=>⟨h.v,h.c,h.vs,h.o⟩⟩
def kS(p:Pr)(K:Nat)(m:Vm):VR:=match m.cs with
 | []=>.bad
 | c::r=>if Lm K m.s m.v c.vs c.o then(match c.code[c.pl]? with
   | none=>.bad
   | some x=>xP p x m.s m.v { c with pl:=c.pl+1 } r)else .bad
def vmN(p:Pr)(K:Nat):Nat->Vm->VR
 | 0,m=>.go m
 | k+1,m=>match kS p K m with
   | .go m'=>vmN p K k m'
   | x=>x
theorem vmN_add{p:Pr}{K:Nat}:∀(k j:Nat) (m m':Vm),vmN p K k m=.go m'->vmN p K (k+j) m=vmN p K j m'
 | 0,j,m,m',a=>by injection a with a;rw[a,Nat.zero_add]
 | k+1,j,m,m',a=>by
   rw[show k+1+j=(k+j)+1 by omega,vmN];rw[vmN]at a;cases hs:kS p K m with
   | go b=>rw[hs]at a;exact vmN_add k j b m' a
   | stop c s=>rw[hs]at a;cases a
   | bad=>rw[hs]at a;cases a
def To(p:Pr)(K:Nat)(m:Vm)(x:VR):Prop:=∃k,vmN p K k m=x
theorem To.go{p:Pr}{K:Nat}{m m':Vm}{x:VR}(a:To p K m (.go m'))(g:To p K m' x):To p K m x:=by
 obtain⟨k,c⟩:=a;obtain⟨j,b⟩:=g;exact⟨k+j,(vmN_add k j m m' c).trans b⟩
theorem To.refl{p:Pr}{K:Nat}{m:Vm}:To p K m (.go m):=⟨0,rfl⟩
theorem To.one{p:Pr}{K:Nat}{m:Vm}{x:VR}(a:kS p K m=x):To p K m x:=⟨1,by
 rw[vmN,a]
 cases x <;> rfl⟩
def Sm{α:Type}(p:Pr)(K:Nat)(m:Vm)(x:Res α)(F:α->RS->VR):Prop:=To p K m (match x with | .ok a s=>F a s | .fin s=>.stop none s)
theorem Sm.go{α:Type}{p:Pr}{K:Nat}{m m':Vm}{x:Res α}{F:α->RS->VR}(a:To p K m (.go m'))(g:Sm p K m' x F):Sm p K m x F:=To.go a g
theorem Sm.one{α:Type}{p:Pr}{K:Nat}{m m':Vm}{x:Res α}{F:α->RS->VR}(a:kS p K m=.go m')(g:Sm p K m' x F):Sm p K m x F:=To.go (To.one a) g
theorem Sm.bind{α β:Type}{p:Pr}{K:Nat}{m:Vm}{x:Res α}{F:α->RS->VR}{f:α->RS->Res β}{H:β->RS->VR}(b:Sm p K m x F)(g:∀a t,x=.ok a t->To p K m (F a t)->Sm p K m (f a t) H):Sm p K m (x.bind f) H:=by
 cases x with
 | fin t=>exact b
 | ok a t=>exact g a t rfl b
theorem Sm.imp{α:Type}{p:Pr}{K:Nat}{m:Vm}{x:Res α}{F G:α->RS->VR}(b:Sm p K m x F)(g:∀a t,x=.ok a t->F a t=G a t):Sm p K m x G:=by
 cases x with
 | fin t=>exact b
 | ok a t=>unfold Sm at *;dsimp only at *;rw[<-g a t rfl];exact b
def Sub(code:List Ins)(b:Nat)(l:List Ins):Prop:=∀i x,l[i]? =some x->code[b+i]? =some x
theorem Sub.head{code:List Ins}{b:Nat}{x:Ins}{l:List Ins}(a:Sub code b (x::l)):code[b]? =some x:=a 0 x rfl
theorem Sub.tail{code:List Ins}{b:Nat}{x:Ins}{l:List Ins}(a:Sub code b (x::l)):Sub code (b+1) l:=fun i d c=>by
 rw[show b+1+i=b+(i+1)by omega];exact a (i+1) d Il
theorem Sub.left{code:List Ins}{b:Nat}{k l:List Ins}(c:Sub code b (k++l)):Sub code b k:=fun i d a=>c i d (by
 rw[List.getElem?_append_left (List.getElem?_eq_some_iff.1 a).1];exact a)
theorem Sub.right{code:List Ins}{b:Nat}{k l:List Ins}(a:Sub code b (k++l)){c:Nat}(d:c=b+k.length):Sub code c l:=fun i g e=>by
 subst d;rw[show b+k.length+i=b+(k.length+i)by omega];exact a _ g (by rw[List.getElem?_append_right I7,show k.length+i-k.length=i by omega];exact e)
theorem yC{p:Pr}{K:Nat}{s:RS}{v:List Int}{code:List Ins}{b:Nat}{vs:Vals}{o:List Nat}{r:List Fr}{x:Ins}(c:Lm K s v vs o)(a:code[b]? =some x):
 kS p K ⟨s,v,⟨code,b,vs,o⟩::r⟩=xP p x s v ⟨code,b+1,vs,o⟩ r:=by
 unfold kS;dsimp only;rw[if_pos c,a]
def yD:List Ex->Nat
 | []=>0
 | e::r=>(xv e).length+yD r
theorem joinC_lenc:∀(l:List Ex),yD l<=(xN ((uU l).map (·.2.2))).length
 | []=>Nat.le_refl _
 | [x]=>by rw[uU,uU];show(xv x).length+0<=(xv x).length;omega
 | x::y::r=>by
   have a:=joinC_lenc (y::r);have e:xN ((uU (x::y::r)).map (·.2.2))=xv x++44::32::xN ((uU (y::r)).map (·.2.2)):=rfl;rw[e,yD,List.length_append,List.length_cons,List.length_cons];omega
theorem parT_lenc(lev:Int)(c:Int × Int × List UInt8):c.2.2.length<=(parT lev c).length:=by
 unfold parT;split
 .simp
  omega
 .exact Nat.le_refl _
theorem sgn_lenc{op:Int}(a:20<=op)(b:op<=22):1<=(jh op).data.toList.length:=by
 have:op=20\/op=21\/op=22:=I7
 rcases this with rfl|rfl|rfl <;> decide
theorem itoa_lenc(n:Int)(a:0<=n):1<=(Lib.itoa n).length:=by
 obtain⟨u,rfl⟩:∃u:Nat,n=(u:Int):=⟨n.toNat,I7⟩
 unfold Lib.itoa;rw[if_neg I7];rw[Lib.decDigits];split
 .exact Nat.le_refl _
 .rw[List.length_append,List.length_singleton]
  omega
theorem nm_lenc{s:ByteArray}(a:vd s=true):1<=s.data.toList.length:=by
 unfold vd kQ at a;simp only[Bool.and_eq_true]at a;have b:=a.1.1.1.1;cases hs:s.data.toList with
 | nil=>rw[hs]at b;cases b
 | cons x r=>rw[List.length_cons];omega
mutual
theorem lenX_lec:∀(e:Ex) (m:Nat),vJ e m=true->zg e<=2*(xv e).length
 | .mk k op n name args,m,h=>by
   rw[kf,Bool.and_eq_true,Bool.and_eq_true]at h;have j:=lenXs_lec args (m-1) h.2;have c:=h.1.2;rw[zg,xv];unfold zj at c;unfold nodeT;by_cases l:k=1
   .rw[if_pos l]at c ⊢
    simp only[Bool.and_eq_true,decide_eq_true_eq]at c;have:args=[]:=List.length_eq_zero_iff.1 c.2;subst this;have:=itoa_lenc n c.1.1.1;rw[zE];omega
   rw[if_neg l]at c ⊢;by_cases o:k=2
   .rw[if_pos o]at c ⊢
    simp only[Bool.and_eq_true,decide_eq_true_eq]at c;have:args=[]:=List.length_eq_zero_iff.1 c.2;subst this;rw[zE];unfold boolT;split
    .show 0+2<=2*4;omega
    .show 0+2<=2*5;omega
   rw[if_neg o]at c ⊢;by_cases p:k=3
   .rw[if_pos p]at c ⊢
    simp only[Bool.and_eq_true,decide_eq_true_eq]at c;have:args=[]:=List.length_eq_zero_iff.1 c.2;subst this;have:=nm_lenc c.1.1.1;rw[zE];omega
   rw[if_neg p]at c ⊢;by_cases q:k=4
   .rw[if_pos q]at c ⊢
    simp only[Bool.and_eq_true,decide_eq_true_eq]at c;obtain⟨a,rfl⟩:=List.length_eq_one_iff.1 c.2;have e:kid (uU [a]) 0=(a.kind,a.op,xv a):=rfl;rw[yD,yD]at j;split
    .rw[e]
     simp only[List.length_append,List.length_cons];omega
    .rename_i v
     have g:=sgn_lenc c.1.1.1.1 I7;have d:=parT_lenc 11 (kid (uU [a]) 0);rw[e]at d;rw[e,List.length_append];have d:(xv a).length<=(parT 11 (a.kind,a.op,xv a)).length:=d;omega
   rw[if_neg q]at c ⊢;by_cases g:k=5
   .rw[if_pos g]at c ⊢
    simp only[Bool.and_eq_true,decide_eq_true_eq]at c
    obtain⟨a,b,rfl⟩:∃a b,args=[a,b]:=by
     match args,c.2 with
     | [a,b],_=>exact⟨a,b,rfl⟩
    have t:kid (uU [a,b]) 0=(a.kind,a.op,xv a):=rfl;have u:kid (uU [a,b]) 1=(b.kind,b.op,xv b):=rfl;rw[yD,yD,yD]at j;have d:(xv a).length<=(parT (jZ op) (a.kind,a.op,xv a)).length:=parT_lenc (jZ op) (a.kind,a.op,xv a);have i:(xv b).length<=(parT (jZ op+1) (b.kind,b.op,xv b)).length:=parT_lenc (jZ op+1) (b.kind,b.op,xv b);rw[t,u];simp only[List.length_append,List.length_cons];omega
   rw[if_neg g]at c ⊢;by_cases d:k=6
   .rw[if_pos d]at c ⊢
    simp only[Bool.and_eq_true,decide_eq_true_eq]at c;obtain⟨a,rfl⟩:=List.length_eq_one_iff.1 c.2;have e:kid (uU [a]) 0=(a.kind,a.op,xv a):=rfl;rw[yD,yD]at j;rw[e];simp only[List.length_append,List.length_cons];omega
   rw[if_neg d]at c ⊢;by_cases i:k=7
   .rw[if_pos i]
    have:=joinC_lenc args;simp only[List.length_append,List.length_cons];omega
   rw[if_neg i]at c ⊢;by_cases r:k=8
   .rw[if_pos r]at c
    simp only[Bool.and_eq_true,decide_eq_true_eq]at c;have:args=[]:=List.length_eq_zero_iff.1 c.2;subst this;rw[zE];show 0+2<=2*6;omega
   .rw[if_neg r]at c
    cases c
theorem lenXs_lec:∀(l:List Ex) (m:Nat),qC l m=true->zE l<=2*yD l
 | [],_,_=>Nat.le_refl _
 | e::r,m,h=>by
   rw[qb,Bool.and_eq_true]at h;have a:=lenX_lec e m h.1;have b:=lenXs_lec r m h.2;rw[zE,yD];omega
end
theorem yg{args:List Ex}(b:args.length=1):yD args=(argT args 0).length:=by
 obtain⟨a,rfl⟩:=List.length_eq_one_iff.1 b;show(xv a).length+0=(xv a).length;omega
theorem arg_lenc2{args:List Ex}(c:args.length=2):yD args=(argT args 0).length+(argT args 1).length:=by
 match args,c with
 | [a,b],_=>
   show(xv a).length+((xv b).length+0)=(xv a).length+(xv b).length;omega
theorem lB_lec{l:List St}{f:Nat->Nat}{d n:Nat}(a:f d<=n)(b:f (d+1)<=n):lB l f d<=n+2:=by
 unfold lB;split <;> omega
theorem head_lenc{k h:Int}{name:ByteArray}{args:List Ex}{b c:Nat}{r:Bool}(a:zr k h name args.length b c r=true)(p:¬k=6)(q:¬k=7):yD args+1<=(xO k h name args).length/\(k=4\/k=5->yD args+6<=(xO k h name args).length):=by
 unfold zr at a;unfold xO;by_cases i:k=1
 .rw[if_pos i]at a ⊢
  exact Ou
 rw[if_neg i]at a ⊢;by_cases l:k=2
 .rw[if_pos l]at a ⊢
  exact Ou
 rw[if_neg l]at a ⊢;by_cases m:k=3
 .rw[if_pos m]at a ⊢
  simp only[Bool.and_eq_true,decide_eq_true_eq]at a;rw[arg_lenc2 a.1.1.2];simp only[List.length_append,List.length_cons,List.length_nil];omega
 rw[if_neg m]at a ⊢;by_cases o:k=4
 .rw[if_pos o]at a ⊢
  simp only[Bool.and_eq_true,decide_eq_true_eq]at a;rw[yg a.2];simp only[List.length_append,List.length_cons,List.length_nil];omega
 rw[if_neg o]at a ⊢;by_cases e:k=5
 .rw[if_pos e]at a ⊢
  simp only[Bool.and_eq_true,decide_eq_true_eq]at a;rw[yg a.1.2];simp only[List.length_append,List.length_cons,List.length_nil];omega
 rw[if_neg e,if_neg I7]at a;rw[if_neg e,if_neg p,if_neg q];by_cases d:k=8
 .rw[if_pos (Or.inl d)]at a
  rw[if_pos d];simp only[Bool.and_eq_true,decide_eq_true_eq]at a;rw[yg a.1.1.2];simp only[List.length_append,List.length_cons,List.length_nil];omega
 by_cases g:k=9
 .rw[if_pos (Or.inr g)]at a
  rw[if_neg d,if_pos g];simp only[Bool.and_eq_true,decide_eq_true_eq]at a;rw[yg a.1.1.2];simp only[List.length_append,List.length_cons,List.length_nil];omega
 rw[if_neg I7]at a;rw[if_neg d,if_neg g];by_cases j:k=10
 .rw[if_pos j]at a
  simp only[Bool.and_eq_true,decide_eq_true_eq]at a;rw[yg a.1.1.1.2];simp only[List.length_append,List.length_cons,List.length_nil];omega
 .rw[if_neg j]at a
  cases a
mutual
theorem lenT_lec:∀(t:St) (m d u:Nat),stOK t m=true->d+m<=101->kn t d<=104*(stT t u).length
 | .mk k ty name args thn els,m,d,u,h,hd=>by
   rw[kH]at h;simp only[Bool.and_eq_true,decide_eq_true_eq]at h;have B:=lenXs_lec args 100 h.1.1.2;have r:=kt thn (m-1) d (u+1) h.1.2 I7;have v:=kt thn (m-1) (d+1) (u+1) h.1.2 I7;have w:=kt thn (m-1) 0 (u+1) h.1.2 I7;have x:=kt thn (m-1) 1 (u+1) h.1.2 I7;have p:=kt els (m-1) d (u+1) h.2 I7;have q:=kt els (m-1) (d+1) (u+1) h.2 I7;have y:lB thn (lenTs thn) d<=104*(kW thn (u+1)).length+2:=lB_lec r v;have z:lB thn (lenTs thn) 0<=104*(kW thn (u+1)).length+2:=lB_lec w x;have A:lB els (lenTs els) d<=104*(kW els (u+1)).length+2:=lB_lec p q;rw[kn,stT];by_cases c:k=6
   .rw[if_neg I7,if_neg I7,if_pos (Or.inl c)]
    subst c;have e:(xO 6 ty name args).length=6:=rfl;simp only[List.length_append,List.length_cons];omega
   by_cases g:k=7
   .rw[if_neg I7,if_neg I7,if_pos (Or.inr g)]
    subst g;have e:(xO 7 ty name args).length=9:=rfl;simp only[List.length_append,List.length_cons];omega
   have j:=head_lenc h.1.1.1.2 c g;by_cases a:k=4
   .rw[if_pos a,if_pos a]
    have l:=j.2 (Or.inl a);by_cases i:els.length=0
    .have o:els=[]:=List.length_eq_zero_iff.1 i
     have C:lB els (lenTs els) d=0:=by rw[o];rfl
     rw[if_pos i];simp only[List.length_append,List.length_cons,List.length_nil];omega
    .rw[if_neg i]
     simp only[List.length_append,List.length_cons,List.length_nil];omega
   rw[if_neg a,if_neg a];by_cases b:k=5
   .rw[if_pos b,if_pos b]
    have l:=j.2 (Or.inr b);simp only[List.length_append,List.length_cons,List.length_nil];omega
   rw[if_neg b,if_neg b,if_neg I7];simp only[List.length_append,List.length_cons,List.length_nil];omega
theorem kt:∀(l:List St) (m d u:Nat),stsOK l m=true->d+m<=101->lenTs l d<=104*(kW l u).length
 | [],_,_,_,_,_=>Nat.zero_le _
 | t::r,m,d,u,h,hd=>by
   rw[jy,Bool.and_eq_true]at h;have a:=lenT_lec t m d u h.1 hd;have b:=kt r m d u h.2 hd;rw[lenTs,kW,List.length_append];omega
end
theorem fu_lenc{p:Pr}{f:Fu}(d:f∈p.funcs):(kW f.body 1).length<=(prT p).length:=by
 have e:(kW f.body 1).length<=(fuT f).length:=by
  unfold fuT;simp only[List.length_append,List.length_cons];omega
 have g:(fuT f).length<=((p.funcs.map fuT).flatten).length:=by
  obtain⟨a,b,c⟩:=List.append_of_mem d;rw[c];simp only[List.map_append,List.map_cons,List.flatten_append,List.flatten_cons,List.length_append];omega
 unfold prT;rw[List.length_append];omega
theorem code_len{p:Pr}(b:prOK p=true){f:Fu}(c:f∈p.funcs):lenTs f.body 0<=104*(prT p).length:=by
 unfold prOK at b;rw[Bool.and_eq_true]at b;have a:=List.all_eq_true.1 b.2 f c;unfold yF at a;simp only[Bool.and_eq_true]at a;have d:=kt f.body 100 0 1 a.2 I7;have e:=fu_lenc c;omega
structure Small (p:Pr):Prop where
 ok:prOK p=true
 sz:Sized p
 n1:p.arrays.length<=1000000
 n2:p.funcs.length<=1000000
 cn:∀f∈p.funcs,f.params.length+cntSs f.body<=1000000000
 ln:∀f∈p.funcs,lenTs f.body 0<=1000000000
theorem qG{α β:Type}{x:PR α}{f:α->List Tok->PR β}{b:β}{r:List Tok}(d:x.bind f=.ok b r):∃a c,x=.ok a c/\f a c=.ok b r:=by
 cases x with
 | ok a c=>exact⟨a,c,rfl,d⟩
 | bad c=>cases d
 | deep c=>cases d
 | out=>cases d
theorem jn{α:Type}{k:Nat}{l r:List Tok}{x:PR α}{a:α}(b:zc k l x)(e:x=.ok a r):zk r/\r.length+k<=l.length:=by
 subst e;exact b.2
theorem bsm_ok{α:Type}{x:PR α}{a:α}{r:List Tok}(d:ya x=.ok a r):∃r1,x=.ok a r1:=by
 obtain⟨b,r1,e,g⟩:=qG d;obtain⟨_,h,_,c⟩:=qG g;injection c with c _;exact⟨r1,c ▸ e⟩
theorem nm_leaf{n:Nat}{l r:List Tok}{s:St}(a:pNm n l=.ok s r):cntS s=1:=by
 unfold pNm at a;obtain⟨_,b,_,a⟩:=qG a;split at a
 .obtain⟨_,_,_,a⟩:=qG a
  injection a with a _;rw[<-a,cntS,cntSs]
 .split at a
  .obtain⟨_,_,_,a⟩:=qG a
   obtain⟨_,_,_,a⟩:=qG a;obtain⟨_,_,_,a⟩:=qG a;obtain⟨_,_,_,a⟩:=qG a;injection a with a _;rw[<-a,cntS,cntSs]
  .obtain⟨_,_,_,a⟩:=qG a
   obtain⟨_,_,_,a⟩:=qG a;injection a with a _;rw[<-a,cntS,cntSs]
theorem cnt_app:∀(a b:List St),cntSs (a++b)=cntSs a+cntSs b
 | [],b=>by rw[List.nil_append,cntSs];omega
 | s::r,b=>by rw[List.cons_append,cntSs,cntSs,cnt_app r b];omega
theorem cnt_stmt:∀n:Nat,(∀d l s r,zk l->pS n d l=.ok s r->cntS s+r.length<=l.length)/\(∀d e t l s r,zk l->pEl n d e t l=.ok s r->cntS s+r.length<=l.length+1+cntSs t)/\(∀d l b r,zk l->pB n d l=.ok b r->cntSs b+r.length<=l.length)/\(∀d acc l b r,zk l->pBL n d acc l=.ok b r->cntSs b+r.length<=l.length+cntSs acc)
 | 0=>⟨fun d l s r _ a=>(by rw[pS]at a;cases a),fun d e t l s r _ a=>(by rw[pEl]at a;cases a),fun d l b r _ a=>(by rw[pB]at a;cases a),fun d acc l b r _ a=>(by rw[pBL]at a;cases a)⟩
 | n+1=>by
   obtain⟨A,z,q,v⟩:=cnt_stmt n;refine⟨fun d l s r c a=>?_,fun d e t l s r c a=>?_,fun d l b r c a=>?_,fun d acc l b r c a=>?_⟩
   .have C:=(jn (pS_fits (n:=n+1) (d:=d) c) a).2
    rw[pS]at a;split at a
    .cases a
    split at a
    .obtain⟨h,a⟩:=bsm_ok a
     obtain⟨_,_,_,a⟩:=qG a;obtain⟨_,_,_,a⟩:=qG a;obtain⟨_,_,_,a⟩:=qG a;obtain⟨_,_,_,a⟩:=qG a;injection a with a _;rw[<-a,cntS,cntSs];omega
    split at a
    .rename_i k
     obtain⟨e,h,g,a⟩:=qG a;obtain⟨t,B,m,a⟩:=qG a;have j:=zH.sign c k;obtain⟨o,y⟩:=jn (yG j.2.1) g;have w:=q _ _ _ _ o m;have x:=(jn (zAi o) m).1;have:=z _ _ _ _ _ _ x a;have:=j.2.2;omega
    split at a
    .rename_i k
     obtain⟨e,h,g,a⟩:=qG a;obtain⟨t,B,m,a⟩:=qG a;have j:=zH.sign c k;obtain⟨o,y⟩:=jn (yG j.2.1) g;have w:=q _ _ _ _ o m;injection a with a i;have:=j.2.2;rw[<-a,<-i,cntS,cntSs];omega
    split at a
    .obtain⟨h,a⟩:=bsm_ok a
     injection a with a _;rw[<-a,cntS,cntSs];omega
    split at a
    .obtain⟨h,a⟩:=bsm_ok a
     injection a with a _;rw[<-a,cntS,cntSs];omega
    split at a
    .obtain⟨h,a⟩:=bsm_ok a
     exact Ov
    split at a
    .obtain⟨h,a⟩:=bsm_ok a
     exact Ov
    .obtain⟨h,a⟩:=bsm_ok a
     have:=nm_leaf a;omega
   .rw[pEl]at a
    split at a
    .rename_i k
     obtain⟨u,h,g,a⟩:=qG a;have j:=zH.sign c k;have:=q _ _ _ _ j.2.1 g;have:=j.2.2;injection a with a i;rw[<-a,<-i,cntS];omega
    .injection a with a i
     rw[<-a,<-i,cntS,cntSs];omega
   .rw[pB]at a
    obtain⟨_,h,g,a⟩:=qG a;obtain⟨p,D⟩:=jn (zL c _) g;have:=v _ _ _ _ _ p a;rw[cntSs]at this;omega
   .rw[pBL]at a
    split at a
    .rename_i k
     have j:=(zH.sign c k).2.2;injection a with a i;rw[<-a,<-i];omega
    .obtain⟨s,h,g,a⟩:=qG a
     have m:=A _ _ _ _ c g;have p:=(jn (pS_fits c) g).1;have i:=v _ _ _ _ _ p a;rw[cnt_app,cntSs,cntSs]at i;omega
theorem cnt_pars:∀(n:Nat) (acc:List Pa) (l:List Tok) (ps:List Pa) (r:List Tok),zk l->pPL n acc l=.ok ps r->ps.length+r.length<=l.length+acc.length
 | 0,acc,l,ps,r,_,a=>by rw[pPL]at a;cases a
 | n+1,acc,l,ps,r,hl,a=>by
   rw[pPL]at a;obtain⟨t,p,e,a⟩:=qG a;obtain⟨i,k⟩:=jn (xE hl) e;obtain⟨s,q,g,a⟩:=qG a;obtain⟨c,m⟩:=jn (qc i 1 I8) g;split at a
   .rename_i j
    have d:=zH.sign c j;have b:=cnt_pars n _ _ _ _ d.2.1 a;have:=d.2.2;rw[List.length_append,List.length_singleton]at b;omega
   .obtain⟨_,u,b,a⟩:=qG a
    obtain⟨_,o⟩:=jn (zL c _) b;injection a with a h;rw[<-a,<-h,List.length_append,List.length_singleton];omega
theorem cnt_fn{n:Nat}{t:Int}{s:ByteArray}{l r:List Tok}{f:Fu}(g:zk l)(c:pFn n t s l=.ok f r):f.params.length+cntSs f.body+r.length<=l.length:=by
 unfold pFn at c;obtain⟨ps,m,a,c⟩:=qG c;have j:=(jn (pPs_fits g) a).1;obtain⟨b,o,h,c⟩:=qG c;have p:=(cnt_stmt n).2.2.1 _ _ _ _ j h
 have q:ps.length+m.length<=l.length:=by
  unfold pPs at a;obtain⟨_,v,d,a⟩:=qG a;obtain⟨e,u⟩:=jn (zL g _) d;split at a
  .rename_i k
   have:=(zH.sign e k).2.2;injection a with a i;rw[<-a,<-i,List.length_nil];omega
  .have:=cnt_pars _ _ _ _ _ e a
   rw[List.length_nil]at this;omega
 injection c with c d;rw[<-c,<-d];show ps.length+cntSs b+o.length<=l.length;omega
def cntF:List Fu->Nat
 | []=>0
 | f::r=>1+f.params.length+cntSs f.body+cntF r
theorem cntF_app:∀(a b:List Fu),cntF (a++b)=cntF a+cntF b
 | [],b=>by rw[List.nil_append,cntF];omega
 | s::r,b=>by rw[List.cons_append,cntF,cntF,cntF_app r b];omega
theorem cntF_len:∀l:List Fu,l.length<=cntF l
 | []=>Nat.zero_le _
 | f::r=>by have:=cntF_len r;rw[cntF,List.length_cons];omega
theorem cntF_mem:∀{l:List Fu} {f:Fu},f∈l->f.params.length+cntSs f.body<=cntF l
 | g::r,f,a=>by
   rw[cntF];rcases List.mem_cons.1 a with rfl|a
   .omega
   .have:=cntF_mem a;omega
theorem cnt_prog:∀(n:Nat) (p:Pr) (l:List Tok) (q:Pr) (r:List Tok),zk l->pPr n p l=.ok q r->q.arrays.length+cntF q.funcs+r.length<=l.length+p.arrays.length+cntF p.funcs
 | 0,p,l,q,r,_,b=>by rw[pPr]at b;cases b
 | n+1,p,l,q,r,hl,b=>by
   rw[pPr]at b;split at b
   .injection b with b e
    rw[<-b,<-e];omega
   .obtain⟨t,y,e,b⟩:=qG b
    obtain⟨k,v⟩:=jn (xE hl) e;obtain⟨s,z,j,b⟩:=qG b;obtain⟨g,w⟩:=jn (qc k 1 I8) j;split at b
    .rename_i m
     have i:=zH.sign g m.2.2;obtain⟨a,o,d,b⟩:=qG b;obtain⟨h,x⟩:=jn (pArr_fits i.2.1) d;have c:=cnt_prog n _ _ _ _ h b;have:=i.2.2;dsimp only at c;rw[List.length_append,List.length_singleton]at c;omega
    .obtain⟨f,o,d,b⟩:=qG b
     have u:=cnt_fn g d;have h:=(jn (uk g) d).1;have c:=cnt_prog n _ _ _ _ h b;dsimp only at c;rw[cntF_app,cntF,cntF]at c;omega
theorem yh{s:ByteArray}(a:vd s=true):s.size<=maxLen:=by
 unfold vd kQ at a;simp only[Bool.and_eq_true,decide_eq_true_eq]at a;have b:s.size<=20:=by simpa using a.1.1.1.2
 unfold maxLen;omega
theorem sized_ok{p:Pr}(c:prOK p=true):Sized p:=by
 unfold prOK at c;rw[Bool.and_eq_true]at c;refine⟨fun a e=>?_,fun f g=>?_⟩
 .have b:=List.all_eq_true.1 c.1 a e
  unfold vC at b;rw[Bool.and_eq_true]at b;exact yh b.1
 .have b:=List.all_eq_true.1 c.2 f g
  unfold yF at b;simp only[Bool.and_eq_true]at b;refine⟨yh b.1.1.1.1,fun x h=>?_⟩;have d:=List.all_eq_true.1 b.1.2 x h;unfold vg at d;rw[Bool.and_eq_true]at d;exact yh d.1
theorem docP_ok6{s:ByteArray}{p:Pr}{h:Nat}(a:jf s=(p,0,h)):s.size<=100000/\∃c r,zn s.data.toList 1=(c,none)/\jl c=.ok p r/\prOK p=true:=by
 by_cases g:100000<s.size
 .rw[docP_long g]at a
  simp at a
 .cases hn:(zn s.data.toList 1).2 with
  | some l=>
    rw[docP_no I7 hn]at a;simp at a
  | none=>
    have b:=scan_none hn;rw[uu I7 b]at a;unfold docT at a;cases hp:jl (zn s.data.toList 1).1 with
    | ok q r=>
      rw[hp]at a;dsimp only at a;split at a
      .rename_i d
       have e:q=p:=congrArg Prod.fst a;subst e;exact⟨I7,_,r,b,hp,d⟩
      .simp at a
    | bad r=>rw[hp]at a;simp at a
    | deep r=>rw[hp]at a;simp at a
    | out=>
      have x:=xi (jb _ _ _ _ Zr b);rw[hp]at x;exact x.elim
theorem docP_bad6{s:ByteArray}{p:Pr}{k:Int}{e:Nat}(a:jf s=(p,k,e))(c:k≠0):p=pr0:=by
 by_cases d:100000<s.size
 .rw[docP_long d]at a
  exact(congrArg Prod.fst a).symm
 .cases hn:(zn s.data.toList 1).2 with
  | some l=>
    rw[docP_no I7 hn]at a;exact(congrArg Prod.fst a).symm
  | none=>
    have b:=scan_none hn;rw[uu I7 b]at a;unfold docT at a;cases hp:jl (zn s.data.toList 1).1 with
    | ok q r=>
      rw[hp]at a;dsimp only at a;split at a
      .exact absurd (congrArg (fun x=>x.2.1) a).symm c
      .exact(congrArg Prod.fst a).symm
    | bad r=>rw[hp]at a;exact(congrArg Prod.fst a).symm
    | deep r=>rw[hp]at a;exact(congrArg Prod.fst a).symm
    | out=>rw[hp]at a;exact(congrArg Prod.fst a).symm
theorem small_any{s:ByteArray}{p:Pr}{i:Nat}(g:jf s=(p,0,i)):Small p:=by
 obtain⟨q,u,r,b,e,c⟩:=docP_ok6 g;have h:=jb _ _ _ _ Zr b;have l:=(vR _ _ _ _ Zr b).2;have t:s.data.toList.length=s.size:=Ia
 have a:=cnt_prog _ _ _ _ _ h e;rw[cntF]at a;have o:([]:List Ar).length=0:=rfl;have m:=cntF_len p.funcs;refine⟨c,sized_ok c,?_,?_,fun f d=>?_,fun f d=>?_⟩
 .simp at a;omega
 .simp at a;omega
 .have:=cntF_mem d;simp at a;omega
 .have j:=code_len c d
  have k:=parsed_len b e;omega
def e2A:ByteArray:=⟨#[105,110,116,32,109,97,105,110,40,41,32,123,32,105,110,116,32,120,32,61,32,114,101,97,100,40,41,59,32,105,110,116,32,121,32,61,32,114,101,97,100,40,41,59,32,114,101,116,117,114,110,32,120,32]⟩
def e2B:ByteArray:=⟨#[32,121,59,32,125]⟩
def e2T(k:Int):ByteArray:=e2A++jh k++e2B
def xy(k:Int):Pr:=(jf (e2T k)).1
theorem e2d1:jf (e2T 1)=(xy 1,0,0):=by kernel_rfl
theorem e2z1(a:Int):zZ (xy 1) [a,0] 50=(bif qj 1 0 then(1,qa 1 a 0,[],3,42)else(2,0,[],3,42)):=by kernel_rfl
theorem e2s1(a:Int)(n:Nat):zZ (xy 1) [a,.ofNat (n+1)] 50=(bif qj 1 (.ofNat (n+1))then(1,qa 1 a (.ofNat (n+1)),[],3,42)else(2,0,[],3,42)):=by kernel_rfl
theorem e2n1(a:Int)(n:Nat):zZ (xy 1) [a,.negSucc n] 50=(bif qj 1 (.negSucc n)then(1,qa 1 a (.negSucc n),[],3,42)else(2,0,[],3,42)):=by kernel_rfl
theorem e2d2:jf (e2T 2)=(xy 2,0,0):=by kernel_rfl
theorem e2z2(a:Int):zZ (xy 2) [a,0] 50=(bif qj 2 0 then(1,qa 2 a 0,[],3,42)else(2,0,[],3,42)):=by kernel_rfl
theorem e2s2(a:Int)(n:Nat):zZ (xy 2) [a,.ofNat (n+1)] 50=(bif qj 2 (.ofNat (n+1))then(1,qa 2 a (.ofNat (n+1)),[],3,42)else(2,0,[],3,42)):=by kernel_rfl
theorem e2n2(a:Int)(n:Nat):zZ (xy 2) [a,.negSucc n] 50=(bif qj 2 (.negSucc n)then(1,qa 2 a (.negSucc n),[],3,42)else(2,0,[],3,42)):=by kernel_rfl
theorem e2d3:jf (e2T 3)=(xy 3,0,0):=by kernel_rfl
theorem e2z3(a:Int):zZ (xy 3) [a,0] 50=(bif qj 3 0 then(1,qa 3 a 0,[],3,42)else(2,0,[],3,42)):=by kernel_rfl
theorem e2s3(a:Int)(n:Nat):zZ (xy 3) [a,.ofNat (n+1)] 50=(bif qj 3 (.ofNat (n+1))then(1,qa 3 a (.ofNat (n+1)),[],3,42)else(2,0,[],3,42)):=by kernel_rfl
theorem e2n3(a:Int)(n:Nat):zZ (xy 3) [a,.negSucc n] 50=(bif qj 3 (.negSucc n)then(1,qa 3 a (.negSucc n),[],3,42)else(2,0,[],3,42)):=by kernel_rfl
theorem e2d4:jf (e2T 4)=(xy 4,0,0):=by kernel_rfl
theorem e2z4(a:Int):zZ (xy 4) [a,0] 50=(bif qj 4 0 then(1,qa 4 a 0,[],3,42)else(2,0,[],3,42)):=by kernel_rfl
theorem e2s4(a:Int)(n:Nat):zZ (xy 4) [a,.ofNat (n+1)] 50=(bif qj 4 (.ofNat (n+1))then(1,qa 4 a (.ofNat (n+1)),[],3,42)else(2,0,[],3,42)):=by kernel_rfl
theorem e2n4(a:Int)(n:Nat):zZ (xy 4) [a,.negSucc n] 50=(bif qj 4 (.negSucc n)then(1,qa 4 a (.negSucc n),[],3,42)else(2,0,[],3,42)):=by kernel_rfl
theorem e2d5:jf (e2T 5)=(xy 5,0,0):=by kernel_rfl
theorem e2z5(a:Int):zZ (xy 5) [a,0] 50=(bif qj 5 0 then(1,qa 5 a 0,[],3,42)else(2,0,[],3,42)):=by kernel_rfl
theorem e2s5(a:Int)(n:Nat):zZ (xy 5) [a,.ofNat (n+1)] 50=(bif qj 5 (.ofNat (n+1))then(1,qa 5 a (.ofNat (n+1)),[],3,42)else(2,0,[],3,42)):=by kernel_rfl
theorem e2n5(a:Int)(n:Nat):zZ (xy 5) [a,.negSucc n] 50=(bif qj 5 (.negSucc n)then(1,qa 5 a (.negSucc n),[],3,42)else(2,0,[],3,42)):=by kernel_rfl
theorem e2d6:jf (e2T 6)=(xy 6,0,0):=by kernel_rfl
theorem e2z6(a:Int):zZ (xy 6) [a,0] 50=(bif qj 6 0 then(1,qa 6 a 0,[],3,42)else(2,0,[],3,42)):=by kernel_rfl
theorem e2s6(a:Int)(n:Nat):zZ (xy 6) [a,.ofNat (n+1)] 50=(bif qj 6 (.ofNat (n+1))then(1,qa 6 a (.ofNat (n+1)),[],3,42)else(2,0,[],3,42)):=by kernel_rfl
theorem e2n6(a:Int)(n:Nat):zZ (xy 6) [a,.negSucc n] 50=(bif qj 6 (.negSucc n)then(1,qa 6 a (.negSucc n),[],3,42)else(2,0,[],3,42)):=by kernel_rfl
theorem e2d7:jf (e2T 7)=(xy 7,0,0):=by kernel_rfl
theorem e2z7(a:Int):zZ (xy 7) [a,0] 50=(bif qj 7 0 then(1,qa 7 a 0,[],3,42)else(2,0,[],3,42)):=by kernel_rfl
theorem e2s7(a:Int)(n:Nat):zZ (xy 7) [a,.ofNat (n+1)] 50=(bif qj 7 (.ofNat (n+1))then(1,qa 7 a (.ofNat (n+1)),[],3,42)else(2,0,[],3,42)):=by kernel_rfl
theorem e2n7(a:Int)(n:Nat):zZ (xy 7) [a,.negSucc n] 50=(bif qj 7 (.negSucc n)then(1,qa 7 a (.negSucc n),[],3,42)else(2,0,[],3,42)):=by kernel_rfl
theorem e2d8:jf (e2T 8)=(xy 8,0,0):=by kernel_rfl
theorem e2z8(a:Int):zZ (xy 8) [a,0] 50=(bif qj 8 0 then(1,qa 8 a 0,[],3,42)else(2,0,[],3,42)):=by kernel_rfl
theorem e2s8(a:Int)(n:Nat):zZ (xy 8) [a,.ofNat (n+1)] 50=(bif qj 8 (.ofNat (n+1))then(1,qa 8 a (.ofNat (n+1)),[],3,42)else(2,0,[],3,42)):=by kernel_rfl
theorem e2n8(a:Int)(n:Nat):zZ (xy 8) [a,.negSucc n] 50=(bif qj 8 (.negSucc n)then(1,qa 8 a (.negSucc n),[],3,42)else(2,0,[],3,42)):=by kernel_rfl
theorem e2d9:jf (e2T 9)=(xy 9,0,0):=by kernel_rfl
theorem e2z9(a:Int):zZ (xy 9) [a,0] 50=(bif qj 9 0 then(1,qa 9 a 0,[],3,42)else(2,0,[],3,42)):=by kernel_rfl
theorem e2s9(a:Int)(n:Nat):zZ (xy 9) [a,.ofNat (n+1)] 50=(bif qj 9 (.ofNat (n+1))then(1,qa 9 a (.ofNat (n+1)),[],3,42)else(2,0,[],3,42)):=by kernel_rfl
theorem e2n9(a:Int)(n:Nat):zZ (xy 9) [a,.negSucc n] 50=(bif qj 9 (.negSucc n)then(1,qa 9 a (.negSucc n),[],3,42)else(2,0,[],3,42)):=by kernel_rfl
theorem e2d10:jf (e2T 10)=(xy 10,0,0):=by kernel_rfl
theorem e2z10(a:Int):zZ (xy 10) [a,0] 50=(bif qj 10 0 then(1,qa 10 a 0,[],3,42)else(2,0,[],3,42)):=by kernel_rfl
theorem e2s10(a:Int)(n:Nat):zZ (xy 10) [a,.ofNat (n+1)] 50=(bif qj 10 (.ofNat (n+1))then(1,qa 10 a (.ofNat (n+1)),[],3,42)else(2,0,[],3,42)):=by kernel_rfl
theorem e2n10(a:Int)(n:Nat):zZ (xy 10) [a,.negSucc n] 50=(bif qj 10 (.negSucc n)then(1,qa 10 a (.negSucc n),[],3,42)else(2,0,[],3,42)):=by kernel_rfl
theorem e2d11:jf (e2T 11)=(xy 11,0,0):=by kernel_rfl
theorem e2z11(a:Int):zZ (xy 11) [a,0] 50=(bif qj 11 0 then(1,qa 11 a 0,[],3,42)else(2,0,[],3,42)):=by kernel_rfl
theorem e2s11(a:Int)(n:Nat):zZ (xy 11) [a,.ofNat (n+1)] 50=(bif qj 11 (.ofNat (n+1))then(1,qa 11 a (.ofNat (n+1)),[],3,42)else(2,0,[],3,42)):=by kernel_rfl
theorem e2n11(a:Int)(n:Nat):zZ (xy 11) [a,.negSucc n] 50=(bif qj 11 (.negSucc n)then(1,qa 11 a (.negSucc n),[],3,42)else(2,0,[],3,42)):=by kernel_rfl
theorem e2_run{k:Int}(d:1<=k)(e:k<=11)(a b:Int):jf (e2T k)=(xy k,0,0)/\zZ (xy k) [a,b] 50=(bif qj k b then(1,qa k a b,[],3,42)else(2,0,[],3,42)):=by
 have c:k=1\/k=2\/k=3\/k=4\/k=5\/k=6\/k=7\/k=8\/k=9\/k=10\/k=11:=I7
 rcases c with rfl|rfl|rfl|rfl|rfl|rfl|rfl|rfl|rfl|rfl|rfl
 .refine⟨e2d1,?_⟩
  rcases b with(_|n)|n
  .exact e2z1 a
  .exact e2s1 a n
  .exact e2n1 a n
 .refine⟨e2d2,?_⟩
  rcases b with(_|n)|n
  .exact e2z2 a
  .exact e2s2 a n
  .exact e2n2 a n
 .refine⟨e2d3,?_⟩
  rcases b with(_|n)|n
  .exact e2z3 a
  .exact e2s3 a n
  .exact e2n3 a n
 .refine⟨e2d4,?_⟩
  rcases b with(_|n)|n
  .exact e2z4 a
  .exact e2s4 a n
  .exact e2n4 a n
 .refine⟨e2d5,?_⟩
  rcases b with(_|n)|n
  .exact e2z5 a
  .exact e2s5 a n
  .exact e2n5 a n
 .refine⟨e2d6,?_⟩
  rcases b with(_|n)|n
  .exact e2z6 a
  .exact e2s6 a n
  .exact e2n6 a n
 .refine⟨e2d7,?_⟩
  rcases b with(_|n)|n
  .exact e2z7 a
  .exact e2s7 a n
  .exact e2n7 a n
 .refine⟨e2d8,?_⟩
  rcases b with(_|n)|n
  .exact e2z8 a
  .exact e2s8 a n
  .exact e2n8 a n
 .refine⟨e2d9,?_⟩
  rcases b with(_|n)|n
  .exact e2z9 a
  .exact e2s9 a n
  .exact e2n9 a n
 .refine⟨e2d10,?_⟩
  rcases b with(_|n)|n
  .exact e2z10 a
  .exact e2s10 a n
  .exact e2n10 a n
 .refine⟨e2d11,?_⟩
  rcases b with(_|n)|n
  .exact e2z11 a
  .exact e2s11 a n
  .exact e2n11 a n
end Go.Proofs.YthcmenajdcbnnaaGreatDoor
