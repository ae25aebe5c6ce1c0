import Derived.Test.YthcmenajdcbnnaaGreatDoorAnTyRt
set_option linter.unusedSimpArgs false
set_option linter.unusedVariables false
set_option maxRecDepth 100000
set_option maxHeartbeats 99000000
namespace Go.Proofs.YthcmenajdcbnnaaGreatDoor
open Go.RowKit Tryz
theorem Ik{p:Prop}(h:p:=by
 go_wp2_with fail
 go_region_law (first
  |(go_simp;go_at_call 96;(refine(yF (w:=w.drew) z.o J K L F).mono ?_);rintro e Y ⟨rfl,rfl⟩))
 all_goals
  go_wp2
  exact⟨rfl,rfl,⟨τ,_,_,_,_,_,_,u.o.1.drew⟩,u.o.2.drew⟩):p:=h
inductive d5 where
 |beg
 |app (e:Ex)
 |fin (t:St)
 |jmp (to:Nat)
 |unl (to:Nat)
 |lzy (z:Bool) (to:Nat)
 |ent
 |lve
mutual
def zu:Ex->Nat
 |.mk _ _ _ _ tc=>zG tc+2
def zG:List Ex->Nat
 |[]=>0
 |e::r=>zu e+zG r
end
mutual
def yt:Ex->Nat->List d5
 |.mk k op n td tc,b=>
   if k=5/\(op=18\/op=19)then .beg::wX tc (b+1) (decide (op=18))
   else .beg::(qP tc (b+1)++[.app (.mk k op n td tc)])
def qP:List Ex->Nat->List d5
 |[],_=>[]
 |e::r,b=>yt e b++qP r (b+zu e)
def wX:List Ex->Nat->Bool->List d5
 |[],_,z=>[.lzy z 0]
 |e::r,b,z=>yt e b++.lzy z (b+zu e+1+zG r)::qP r (b+zu e+1)
end
mutual
theorem yE:∀(e:Ex) (b:Nat),(yt e b).length=zu e
 | .mk k op n td tc,b=>by
   rw[yt,zu];split
   .rw[Dp,TD]
   .rw[Dp,Dn,jI];rfl
theorem jI:∀(l:List Ex) (b:Nat),(qP l b).length=zG l
 |[],_=>rfl
 |e::r,b=>by rw[qP,zG,Dn,yE,jI]
theorem TD:∀(l:List Ex) (b:Nat) (z:Bool),(wX l b z).length=zG l+1
 |[],_,_=>rfl
 |e::r,b,z=>by rw[wX,zG,Dn,Dp,yE,jI];omega
end
def FU:St->Bool
 |.mk k _ _ _ _ _=>decide (k=1)
def xZ(l:List St):Bool:=l.any FU
def lB(l:List St)(f:Nat->Nat)(d:Nat):Nat:=if xZ l then f (d+1)+2 else f d
def gB(l:List St)(f:Nat->Nat->List d5)(b d:Nat):List d5:=if xZ l then .ent::(f (b+1) (d+1)++[.lve])else f b d
mutual
def xF:St->Nat->Nat
 |.mk k _ _ tc tg th,d=>
   if k=4 then zG tc+3+lB tg (d0 tg) d+lB th (d0 th) d
   else if k=5 then zG tc+3+lB tg (d0 tg) 0
   else if k=6\/k=7 then d+2
   else zG tc+2
def d0:List St->Nat->Nat
 |[],_=>0
 |t::r,d=>xF t d+d0 r d
end
mutual
def xL:St->Nat->Nat->Nat->Nat->List d5
 |.mk k ty td tc tg th,b,d,st,br=>
   if k=4 then .beg::(qP tc (b+1)++.unl (b+zG tc+3+lB tg (d0 tg) d)::(gB tg (fun b d=>qh tg b d st br) (b+zG tc+2) d++
    .jmp (b+zG tc+3+lB tg (d0 tg) d+lB th (d0 th) d)::gB th (fun b d=>qh th b d st br) (b+zG tc+3+lB tg (d0 tg) d) d))
   else if k=5 then .beg::(qP tc (b+1)++.unl (b+zG tc+3+lB tg (d0 tg) 0)::(gB tg (fun c d=>qh tg c d (b+1) (b+zG tc+3+lB tg (d0 tg) 0)) (b+zG tc+2) 0++[.jmp (b+1)]))
   else if k=6 then .beg::(List.replicate d .lve++[.jmp br])
   else if k=7 then .beg::(List.replicate d .lve++[.jmp st])
   else .beg::(qP tc (b+1)++[.fin (.mk k ty td tc tg th)])
def qh:List St->Nat->Nat->Nat->Nat->List d5
 |[],_,_,_,_=>[]
 |t::r,b,d,st,br=>xL t b d st br++qh r (b+xF t d) d st br
end
def qV(l:List St)(d:Nat):Nat:=lB l (d0 l) d
def xB(l:List St)(b d st a:Nat):List d5:=gB l (fun b d=>qh l b d st a) b d
theorem lC{l:List St}{f:Nat->Nat->List d5}{g:Nat->Nat}(h:∀b d,(f b d).length=g d)(b d:Nat):(gB l f b d).length=lB l g d:=by
 unfold gB lB;split
 .simp[h]
 .exact h b d
mutual
theorem sY:∀(t:St) (b d st a:Nat),(xL t b d st a).length=xF t d
 | .mk k ty td tc tg th,b,d,st,a=>by
   rw[xL,xF];split
   .simp only[Dp,Dn,jI,lC (fun b d=>jt tg b d st a),lC (fun b d=>jt th b d st a)];omega
   split
   .simp only[Dp,Dn,jI,lC (fun c d=>jt tg c d _ _),Du];omega
   split
   .rw[Dm O];simp
   split
   .rw[Dm O];simp
   .rw[Dl O];simp[jI]
theorem jt:∀(l:List St) (b d st a:Nat),(qh l b d st a).length=d0 l d
 |[],_,_,_,_=>rfl
 |t::r,b,d,st,a=>by rw[qh,d0,Dn,sY,jt]
end
theorem mM(l:List St)(b d st a:Nat):(xB l b d st a).length=qV l d:=lC (fun b d=>jt l b d st a) b d
def eW(f:Fu):List d5:=qh f.body 0 0 0 0
structure Fr where
 code:List d5
 pl:Nat
 vs:d2
 o:List Nat
structure Vm where
 s:RS
 v:List Int
 cs:List Fr
inductive VR where
 |go (m:Vm)
 |stop (c:Option Int) (s:RS)
 |bad
def pF(p:Pr)(k op n:Int)(td:C2)(a:Nat)(s:RS)(v:List Int)(c:Fr)(r:List Fr):VR:=
 if v.length<a\/zk k op n td a=false then .bad
 else if k=7 then(match jN p td with
  |some f=>if f.params.length=a then .go ⟨zl s,v.take (v.length-a),⟨eW f,0,d7 f (v.drop (v.length-a)),[]⟩::c::r⟩else .bad
  |none=>.bad)
 else if(k=3/\jf c.vs td=none)\/(k=6/\ze p.wa td=none)then .bad
 else match qX p (fun _ _ s=>.fin s) c.vs k op n td (v.drop (v.length-a)) s with
  |.ok x t=>.go ⟨t,v.take (v.length-a)++[x],c::r⟩
  |.fin t=>.stop none t
def YW(v:List Int)(r:List Fr)(n:Int)(t:RS):VR:=match r with
 |[]=>.stop (some n) t
 |c::q=>.go ⟨t,v++[n],c::q⟩
def j3(p:Pr)(k:Int)(td:C2)(s:RS)(v:List Int)(c:Fr)(r:List Fr):VR:=
 match v.getLast? with
 |none=>.bad
 |some x=>
   if k<=3/\uH td=false then .bad
   else if k=1 then .go ⟨s,v.dropLast,{ c with vs:=c.vs++[(td,x)] } :: r⟩
   else if k=2 then(if jf c.vs td=none then .bad else .go ⟨s,v.dropLast,{ c with vs:=yO c.vs td x } :: r⟩)
   else if k=3 then(match v.dropLast.getLast? with
    |none=>.bad
    | some i=>if ze p.wa td=none then .bad else match vD p td i x (zl s)with
      |.ok _ t=>.go ⟨t,v.dropLast.dropLast,c::r⟩
      |.fin t=>.stop none t)
   else if k=8 then YW v.dropLast r x s
   else if k=9 then .go ⟨{ zl s with o:=s.o++[x] },v.dropLast,c::r⟩
   else if k=10 then .go ⟨s,v.dropLast,c::r⟩
   else .bad
def yQ(p:Pr)(x:d5)(s:RS)(v:List Int)(c:Fr)(r:List Fr):VR:=match x with
 | .beg=>match jJ s with
   |.ok _ t=>.go ⟨t,v,c::r⟩
   |.fin t=>.stop none t
 |.app (.mk k op n td tc)=>pF p k op n td tc.length s v c r
 |.fin (.mk k _ td _ _ _)=>j3 p k td s v c r
 |.jmp t=>.go ⟨s,v,{ c with pl:=t } :: r⟩
 | .unl t=>match v.getLast? with
   |none=>.bad
   |some n=>.go ⟨s,v.dropLast,(if n=0 then { c with pl:=t } else c)::r⟩
 | .lzy z t=>match v.getLast? with
   |none=>.bad
   |some n=>if decide (n=0)=z then .go ⟨s,v,{ c with pl:=t } :: r⟩else .go ⟨s,v.dropLast,c::r⟩
 |.ent=>.go ⟨s,v,{ c with o:=c.o++[c.vs.length] } :: r⟩
 | .lve=>match c.o.getLast? with
   |none=>.bad
   |some n=>.go ⟨s,v,{ c with vs:=c.vs.take n,o:=c.o.dropLast } :: r⟩
structure Lm (K:Nat) (s:RS) (v:List Int) (vs:d2) (o:List Nat):Prop where
 v:v.length+s.fuel<=K
 c:s.cost+s.fuel<=K
 vs:vs.length+s.fuel<=K
 o:o.length<=100
instance (K:Nat) (s:RS) (v:List Int) (vs:d2) (o:List Nat):Decidable (Lm K s v vs o):=
 decidable_of_iff (v.length+s.fuel<=K/\s.cost+s.fuel<=K/\vs.length+s.fuel<=K/\o.length<=100) ⟨fun h=>⟨h.1,h.2.1,h.2.2.1,h.2.2.2⟩,fun h=>⟨h.v,h.c,h.vs,h.o⟩⟩
def xP(p:Pr)(K:Nat)(m:Vm):VR:=match m.cs with
 |[]=>.bad
 | c::r=>if Lm K m.s m.v c.vs c.o then(match c.code[c.pl]? with
   |none=>.bad
   |some x=>yQ p x m.s m.v { c with pl:=c.pl+1 } r)else .bad
def LP(p:Pr)(K:Nat):Nat->Vm->VR
 |0,m=>.go m
 | k+1,m=>match xP p K m with
   |.go m'=>LP p K k m'
   |x=>x
theorem LQ{p:Pr}{K:Nat}:∀(k j:Nat) (m m':Vm),LP p K k m=.go m'->LP p K (k+j) m=LP p K j m'
 |0,j,m,m',a=>by injection a with a;rw[a,Yo]
 | k+1,j,m,m',a=>by
   rw[show k+1+j=(k+j)+1 by omega,LP];rw[LP]at a;cases hs:xP p K m with
   |go b=>rw[hs]at a;exact LQ k j b m' a
   |stop c s=>rw[hs]at a;cases a
   |bad=>rw[hs]at a;cases a
def To(p:Pr)(K:Nat)(m:Vm)(x:VR):Prop:=∃k,LP p K k m=x
theorem To.go{p:Pr}{K:Nat}{m m':Vm}{x:VR}(a:To p K m (.go m'))(g:To p K m' x):To p K m x:=by
 obtain⟨k,c⟩:=a;obtain⟨j,b⟩:=g;exact⟨k+j,(LQ k j m m' c).trans b⟩
theorem To.refl{p:Pr}{K:Nat}{m:Vm}:To p K m (.go m):=⟨0,rfl⟩
theorem To.one{p:Pr}{K:Nat}{m:Vm}{x:VR}(h:xP p K m=x):To p K m x:=⟨1,by
 rw[LP,h]
 cases x<;>rfl⟩
def Sm{α:Type}(p:Pr)(K:Nat)(m:Vm)(x:eD α)(F:α->RS->VR):Prop:=To p K m (match x with | .ok a s=>F a s | .fin s=>.stop none s)
theorem Sm.go{α:Type}{p:Pr}{K:Nat}{m m':Vm}{x:eD α}{F:α->RS->VR}(h:To p K m (.go m'))(g:Sm p K m' x F):Sm p K m x F:=To.go h g
theorem Sm.one{α:Type}{p:Pr}{K:Nat}{m m':Vm}{x:eD α}{F:α->RS->VR}(h:xP p K m=.go m')(g:Sm p K m' x F):Sm p K m x F:=To.go (To.one h) g
theorem Sm.bind{α β:Type}{p:Pr}{K:Nat}{m:Vm}{x:eD α}{F:α->RS->VR}{f:α->RS->eD β}{H:β->RS->VR}(h:Sm p K m x F)(g:∀a t,x=.ok a t->To p K m (F a t)->Sm p K m (f a t) H):Sm p K m (x.bind f) H:=by
 cases x with
 |fin t=>exact h
 |ok a t=>exact g a t rfl h
theorem Sm.imp{α:Type}{p:Pr}{K:Nat}{m:Vm}{x:eD α}{F G:α->RS->VR}(h:Sm p K m x F)(g:∀a t,x=.ok a t->F a t=G a t):Sm p K m x G:=by
 cases x with
 |fin t=>exact h
 |ok a t=>unfold Sm at *;dsimp only at *;rw[<-g a t rfl];exact h
def wL(tn:List d5)(b:Nat)(l:List d5):Prop:=∀i x,l[i]?=some x->tn[b+i]?=some x
theorem wL.head{tn:List d5}{b:Nat}{x:d5}{l:List d5}(h:wL tn b (x::l)):tn[b]?=some x:=h 0 x rfl
theorem wL.tail{tn:List d5}{b:Nat}{x:d5}{l:List d5}(a:wL tn b (x::l)):wL tn (b+1) l:=fun i d c=>by
 rw[show b+1+i=b+(i+1)by omega];exact a (i+1) d Xe
theorem wL.left{tn:List d5}{b:Nat}{k l:List d5}(c:wL tn b (k++l)):wL tn b k:=fun i d a=>c i d (by
 rw[Yn (List.getElem?_eq_some_iff.1 a).1];exact a)
theorem wL.right{tn:List d5}{b:Nat}{k l:List d5}(a:wL tn b (k++l)){c:Nat}(d:c=b+k.length):wL tn c l:=fun i f e=>by
 subst d;rw[show b+k.length+i=b+(k.length+i)by omega];exact a _ f (by rw[Yi O,show k.length+i-k.length=i by omega];exact e)
theorem vF{p:Pr}{K:Nat}{s:RS}{v:List Int}{tn:List d5}{b:Nat}{vs:d2}{o:List Nat}{r:List Fr}{x:d5}(c:Lm K s v vs o)(a:tn[b]?=some x):
 xP p K ⟨s,v,⟨tn,b,vs,o⟩::r⟩=yQ p x s v ⟨tn,b+1,vs,o⟩ r:=by
 unfold xP;dsimp only;rw[Dm c,a]
end Go.Proofs.YthcmenajdcbnnaaGreatDoor
namespace Go.Proofs.YthcmenajdcbnnaaGreatDoor
open Go.RowKit Tryz Go.Maps
theorem sZ:Keyed Tryz.prog 9:=string_keyed underlying9
def mN(s:C2):Lit:=.string s.data.toList
theorem TE{s t:C2}(h:s≠t):mN s≠mN t:=fun e=>h (by
 unfold mN at e;injection e with e;cases s;cases t
 simpa[Array.toList_inj]using e)
theorem CY{s:C2}(a:s.size<=maxLen):keyOf Tryz.prog 9 (.string s)=some (mN s):=WideMaps.keyOf_string_mk underlying9 a
abbrev TF:C4->Option (DataW C4×List MemPlace):=fun v=>some (.held v,[])
def eI(w:C3)(m n:Nat)(z:C4)(f:C2->C4):Prop:=
 ∃D:DataW C4,w.ownsMap Tryz.prog 9 TF m n D/\∀s:C2,D.atKey (mN s) (.held z)=.held (f s)
section
variable {w w':C3}{m n:Nat}{z:C4}{f:C2->C4}
theorem eI.lt(h:eI w m n z f):m<w.heap.size:=by obtain⟨D,h,_⟩:=h;exact h.lt
theorem eI.wd(c:eI w m n z f)(i:w'.heap[m]?=w.heap[m]?):eI w' m n z f:=by
 obtain⟨D,⟨b,a,g,d⟩,e⟩:=c;exact⟨D,⟨b,a,i.trans g,d⟩,e⟩
theorem eI.congr(a:eI w m n z f){g:C2->C4}(e:∀s,g s=f s):eI w m n z g:=by
 obtain⟨D,a,b⟩:=a;exact⟨D,a,fun s=>(b s).trans (by rw[e])⟩
theorem oC(w:C3)(z:C4):eI (w.alloc (.map #[] 0)) w.heap.size 0 z fun _=>z:=⟨_,World.ownsMap_made _ _ _ _,fun s=>rfl⟩
def OM(f:C2->C4)(s:C2)(v:C4)(t:C2):C4:=if t=s then v else f t
theorem AU{D:DataW C4}(a:w.ownsMap Tryz.prog 9 TF m n D):IsMap D:=by
 obtain⟨_,_,_,_,_,b⟩:=a;exact⟨_,b⟩
theorem FV{D:DataW C4}(b:IsMap D)(a:∀s:C2,D.atKey (mN s) (.held z)=.held (f s))(s:C2)(v:C4):
 ∀t:C2,(D.put (mN s) (.held v)).atKey (mN t) (.held z)=.held (OM f s v t):=fun t=>by
 unfold OM;by_cases e:t=s
 .subst e
  rw[Dm rfl];exact atKey_put_same b (show WideAt.IsKeyLit (.string _)from trivial) _ _
 .rw[Dl e,<-a t]
  exact atKey_put_other (TE e) _ _
theorem eI.look(c:eI w m n z f){t e:TypeId}(k:Tryz.prog.underlying t=some (.map 9 e))(l:(zeroValue e).run Tryz.prog w=.ok z w){s:C2}(j:s.size<=maxLen):
 (Instr.lookup t (.map (some m)) (.string s) false).run Tryz.prog w=.ok (f s) w:=by
 obtain⟨D,g,d⟩:=c;obtain⟨v,ps,i,a⟩:=g.lookup sZ k l (zd:=.held z) (zp:=[]) rfl (CY j);rw[d s]at a;injection a with a;injection a with b _;injection b with b;rw[i,b]
theorem gH{ops:Array Oper}{d:List Oper}{o:Oper}{a:Act}{Q:Exit->Act->C3->Prop}(p:o.guard=none)(b x vv:Operand)(t:TypeId)(u:o.op=Op.mapUpdate t b x vv)
 (e:TypeId) (y:Tryz.prog.underlying t=some (.map 9 e)) (q:a.eval b=.map (some m)) (g:eI w m n z f) (r:n<maxLen) (s:C2) (B:a.eval x=.string s) (v:s.size<=maxLen) (val:C4) (A:a.eval vv=val)
 (k:∀w',eI w' m (n+1) z (OM f s val)->w.grownBy w' (some m)->wpList Tryz.prog ops Q d (a.put o.dst undef) w'):wpList Tryz.prog ops Q (o::d) a w:=by
 obtain⟨D,c,l⟩:=g;exact wpList_mapUpdate_own w p b x vv t u 9 e sZ y TF m n D q c r (.string s) val (mN s) B A (CY v) (.held val) [] rfl fun w' i j=>k w' ⟨_,i,FV (AU c) l s val⟩ j
theorem eI.upd(b:eI w m n z f){t e:TypeId}(o:Tryz.prog.underlying t=some (.map 9 e))(j:n<maxLen){s:C2}(l:s.size<=maxLen)(val:C4):
 ∃w',(Instr.mapUpdate t (.map (some m)) (.string s) val).run Tryz.prog w=.ok () w'/\eI w' m (n+1) z (OM f s val)/\w.grownBy w' (some m):=by
 obtain⟨D,a,i⟩:=b;obtain⟨w',k,c,g⟩:=a.update sZ o j (CY l) (val:=val) (d:=.held val) (ps:=[]) rfl;exact⟨w',k,⟨_,c,FV (AU a) i s val⟩,g⟩
end
inductive Lb where
 |gl
 |mach
 |funs
 |arrs
 |code
 |arr (k:Nat)
 |vals
 |outs
 |frm (d:Nat)
 |vmap (d i:Nat)
 |outr (d:Nat)
 |cel (d i:Nat)
structure Gm where
 B:Nat
 b:Nat
 p:Pr
 fm:Nat
 am:Nat
 fv:C2->C4
 kp:Nat->Obj->Prop
def pG(B:Nat)(w:C3)(v:C4)(e:Ex):Prop:=∃g o,v=.pointer (some ⟨g,o,none⟩)/\y3 B w e g o
def oD(B:Nat)(w:C3)(v:C4)(t:St):Prop:=∃g o,v=.pointer (some ⟨g,o,none⟩)/\ED B w t g o
theorem pG.below{B a:Nat}{w w':C3}{v:C4}{e:Ex}(b:pG B w v e)(i:Below B w w')(f:B<=a):pG a w' v e:=by
 obtain⟨g,o,c,d⟩:=b;exact⟨g,o,c,y3.below i f e g o d⟩
theorem oD.below{B a:Nat}{w w':C3}{v:C4}{e:St}(b:oD B w v e)(i:Below B w w')(f:B<=a):oD a w' v e:=by
 obtain⟨g,o,c,d⟩:=b;exact⟨g,o,c,ED.below i f e g o d⟩
def oE(B:Nat)(w:C3):d5->C4->C4->C4->C4->Prop
 |.beg,a,b,c,d=>a=.int .i64 0/\b=.int .i64 0/\c=.pointer none/\d=.pointer none
 |.app e,a,b,c,d=>a=.int .i64 1/\b=.int .i64 0/\pG B w c e/\d=.pointer none
 |.fin t,a,b,c,d=>a=.int .i64 2/\b=.int .i64 0/\c=.pointer none/\oD B w d t
 |.jmp t,a,b,c,d=>a=.int .i64 3/\b=.int .i64 (t:Int)/\c=.pointer none/\d=.pointer none
 |.unl t,a,b,c,d=>a=.int .i64 4/\b=.int .i64 (t:Int)/\c=.pointer none/\d=.pointer none
 |.lzy z t,a,b,c,d=>a=.int .i64 (if z then 5 else 6)/\b=.int .i64 (t:Int)/\c=.pointer none/\d=.pointer none
 |.ent,a,b,c,d=>a=.int .i64 7/\b=.int .i64 0/\c=.pointer none/\d=.pointer none
 |.lve,a,b,c,d=>a=.int .i64 8/\b=.int .i64 0/\c=.pointer none/\d=.pointer none
theorem oE.below{B e:Nat}{w w':C3}(g:Below B w w')(f:B<=e):∀{x:d5}{a b c d:C4},oE B w x a b c d->oE e w' x a b c d
 |.beg,_,_,_,_,h=>h
 |.app _,_,_,_,_,h=>⟨h.1,h.2.1,h.2.2.1.below g f,h.2.2.2⟩
 |.fin _,_,_,_,_,h=>⟨h.1,h.2.1,h.2.2.1,h.2.2.2.below g f⟩
 |.jmp _,_,_,_,_,h=>h
 |.unl _,_,_,_,_,h=>h
 |.lzy _ _,_,_,_,_,h=>h
 |.ent,_,_,_,_,h=>h
 |.lve,_,_,_,_,h=>h
def FW(B:Nat)(τ:Nat->Lb)(w:C3)(v:C4)(l:List d5):Prop:=
 ∃(e:Option Addr) (f:Nat),v=.slice e l.length f/\l.length<=281474976710656/\(0<l.length->∃g,e=some ⟨g,0,none⟩/\τ g=.code/\g<w.heap.size/\
   ∀i x,l[i]?=some x->∃a b c d,oE B w x a b c d/\w.cell? ⟨g,i*4,none⟩=some a/\w.cell? ⟨g,i*4+1,none⟩=some b/\w.cell? ⟨g,i*4+2,none⟩=some c/\w.cell? ⟨g,i*4+3,none⟩=some d)
def g4(B:Nat)(τ:Nat->Lb)(l:Lb)(w:C3)(v:C4)(a:List Int):Prop:=w.ownsRow B 3 1 v a.length (a.map (Value.int .i64))/\∀b,v.ownBlock=some b->τ b=l
def eV(vs:d2)(tm:List Nat)(s:C2):C4:=match jf vs s with
 | some k=>match tm[k]? with
   |some l=>.pointer (some ⟨l,0,none⟩)
   |none=>.pointer none
 |none=>.pointer none
def FX(τ:Nat->Lb)(w:C3)(d i m:Nat)(vs:d2)(tm:List Nat):Prop:=τ m=.vmap d i/\eI w m vs.length (.pointer none) (eV vs tm)
abbrev FY(b:C4)(a mp:Nat)(vo pa:C4):Obj:=.cells #[b,((a:Int):Int),.map (some mp),vo,pa] 167
structure rH (B:Nat) (τ:Nat->Lb) (w:C3) (d a:Nat) (pa:C4) (c:Fr) (vc:C4) (mp:Nat) (vo:C4) (locs ms:List Nat):Prop where
 box:w.heap[a]?=some (FY vc c.pl mp vo pa)
 lab:τ a=.frm d
 code:FW B τ w vc c.code
 ll:locs.length=c.vs.length
 cell:∀i l x,locs[i]?=some l->c.vs[i]?=some x->τ l=.cel d i/\w.heap[l]?=some (.cells #[(x.2:Int)] 3)/\eF x.2
 map:FX τ w d c.o.length mp c.vs locs
 ml:ms.length=c.o.length
 row:w.ownsRow B 163 1 vo c.o.length (ms.map fun m=>.map (some m))
 rol:∀b,vo.ownBlock=some b->τ b=.outr d
 o:∀i m k,ms[i]?=some m->c.o[i]?=some k->FX τ w d i m (c.vs.take k) locs
 ord:(c.o++[c.vs.length]).Pairwise (·<=·)
def H6(B:Nat)(τ:Nat->Lb)(w:C3):C4->List Fr->Prop
 |v,[]=>v=.pointer none
 |v,c::r=>∃a pa d mp vo tm b,v=.pointer (some ⟨a,0,none⟩)/\rH B τ w r.length a pa c d mp vo tm b/\H6 B τ w pa r
def YX(G:Gm)(τ:Nat->Lb)(w:C3):Prop:=
 τ G.fm=.funs/\(∃n,eI w G.fm n (.agg #[(),()]) G.fv)/\∀s f,jN G.p s=some f->∃b a,G.fv s=.agg #[b,a]/\e5 G.B w b f.params/\FW G.B τ w a (eW f)
def JH(p:Pr)(b:List Nat)(a:List (List Int))(s:C2):C4:=match ze p.wa s with
 |some k=>arV (b.getD k 0,a.getD k [])
 |none=>.slice none 0 0
structure s0 (G:Gm) (τ:Nat->Lb) (w:C3) (arr:List (List Int)) (rows:List Nat):Prop where
 lab:τ G.am=.arrs
 len:arr.length=G.p.wa.length
 rl:rows.length=arr.length
 map:∃n,eI w G.am n (.slice none 0 0) (JH G.p rows arr)
 row:∀k g l,rows[k]?=some g->arr[k]?=some l->τ g=.arr k/\w.heap[g]?=some (FP l)/\eJ l/\l.length<=1000
def TG(G:Gm)(τ:Nat->Lb)(w:C3)(a:List (List Int)):Prop:=∃b,s0 G τ w a b
abbrev YY(G:Gm)(vi vv pa vo:C4)(s:RS):Obj:=.cells #[.map (some G.fm),.map (some G.am),vi,vv,pa,(0:Int),(0:Int),vo,((s.cost:Int):Int),((s.fuel:Int):Int)] 74
structure eS (G:Gm) (τ:Nat->Lb) (w:C3) (m:Vm) (vi vv pa vo:C4):Prop where
 hB:G.B<=w.heap.size
 old:∀k,k<G.B->τ k=.gl
 tab:d6 G.B w
 pok:eK G.p=true
 box:w.heap[G.b]?=some (YY G vi vv pa vo m.s)
 lab:τ G.b=.mach
 inp:lQ G.B w vi m.s.inp
 val:g4 G.B τ .vals w vv m.v
 o:g4 G.B τ .outs w vo m.s.o
 frs:H6 G.B τ w pa m.cs
 wz:YX G τ w
 arr:TG G τ w m.s.arr
 nv:eJ m.v
 ni:eJ m.s.inp
 no:m.s.o.length<=m.s.cost
 lim:m.s.cost+m.s.fuel<=1000000000
 kp:∀k o,G.kp k o->τ k=.gl/\w.heap[k]?=some o
def MW(G:Gm)(τ:Nat->Lb)(w:C3)(m:Vm):Prop:=∃vi vv pa vo,eS G τ w m vi vv pa vo
def e3(τ τ':Nat->Lb)(w:C3):Prop:=∀k,k<w.heap.size->τ' k=τ k
theorem e3.refl(τ:Nat->Lb)(w:C3):e3 τ τ w:=fun _ _=>rfl
def TH(τ:Nat->Lb)(b:Nat)(l:Lb)(k:Nat):Lb:=if k=b then l else τ k
theorem fS(τ:Nat->Lb)(b:Nat)(l:Lb):TH τ b l b=l:=Dm rfl
theorem fT(τ:Nat->Lb){b k:Nat}(l:Lb)(h:k≠b):TH τ b l k=τ k:=Dl h
theorem e3.lbl(τ:Nat->Lb)(w:C3){b:Nat}(l:Lb)(_:w.heap.size<=b):e3 τ (TH τ b l) w:=fun k _=>Dl O
section
variable {B:Nat} {τ τ':Nat->Lb}{X:Lb->Prop} {w w':C3}
theorem kj(e:d1 (fun k=>X (τ k)) w w')(d:e3 τ τ' w){k:Nat}{l:Lb}{o:Obj}(b:τ k=l)(c:¬X l)(a:w.heap[k]?=some o):τ' k=l/\w'.heap[k]?=some o:=
 ⟨(d k (zB a)).trans b,(e.block k (zB a) (by rw[b];exact c)).trans a⟩
theorem FW.keep{v:C4}{l:List d5}(r:FW B τ w v l)(m:d1 (fun k=>X (τ k)) w w')(D:e3 τ τ' w)(C:Below B w w')(A:¬X .code):FW B τ' w' v l:=by
 obtain⟨n,p,s,t,u⟩:=r;refine⟨n,p,s,t,fun F=>?_⟩;obtain⟨g,y,j,f,z⟩:=u F;have E:w'.heap[g]?=w.heap[g]?:=m.block g f (by rw[j];exact A);refine⟨g,y,(D g f).trans j,D6 f m.size,fun i x G=>?_⟩;obtain⟨a,b,c,d,q,H,I,J,K⟩:=z i x G;have e:∀o,w'.cell? ⟨g,o,none⟩=w.cell? ⟨g,o,none⟩:=fun o=>D4 E
 exact⟨a,b,c,d,q.below C Zr,(e _).trans H,(e _).trans I,(e _).trans J,(e _).trans K⟩
theorem g4.keep{l:Lb}{v:C4}{e:List Int}(a:g4 B τ l w v e)(i:d1 (fun k=>X (τ k)) w w')(g:e3 τ τ' w)(f:¬X l):g4 B τ' l w' v e:=
 ⟨zZ a.1 fun k d=>i.block k (zo a.1 k d).1 (by rw[a.2 k d];exact f),fun b c=>(g b (zo a.1 b c).1).trans (a.2 b c)⟩
theorem FX.keep{d i m:Nat}{vs:d2}{tm:List Nat}(a:FX τ w d i m vs tm)(e:d1 (fun k=>X (τ k)) w w')(c:e3 τ τ' w)(b:¬X (.vmap d i)):FX τ' w' d i m vs tm:=
 ⟨(c m a.2.lt).trans a.1,a.2.wd (e.block m a.2.lt (by rw[a.1];exact b))⟩
def TI(X:Lb->Prop)(n:Nat):Prop:=¬X .code/\∀d,d<n->¬X (.frm d)/\¬X (.outr d)/\∀i,¬X (.vmap d i)/\¬X (.cel d i)
theorem rH.keep{d a:Nat}{pa:C4}{c:Fr}{u:C4}{mp:Nat}{vo:C4}{tm t:List Nat}(e:rH B τ w d a pa c u mp vo tm t)(g:d1 (fun k=>X (τ k)) w w')(f:e3 τ τ' w)(j:Below B w w'){n:Nat}(C:TI X n)(D:d<n):rH B τ' w' d a pa c u mp vo tm t:=by
 obtain⟨v,y⟩:=C;obtain⟨z,A,q⟩:=y d D;have r:=kj g f e.lab z e.box;refine⟨r.2,r.1,e.code.keep g f j v,e.ll,fun i l x E G=>?_,e.map.keep g f (q _).1,e.ml,?_,fun b j=>?_,fun i m k F p=>(e.o i m k F p).keep g f (q i).1,e.ord⟩
 .obtain⟨H,I,J⟩:=e.cell i l x E G
  have s:=kj g f H (q i).2 I;exact⟨s.1,s.2,J⟩
 .exact zZ e.row fun k p=>g.block k (zo e.row k p).1 (by rw[e.rol k p];exact A)
 .exact(f b (zo e.row b j).1).trans (e.rol b j)
theorem H6.keep(e:d1 (fun k=>X (τ k)) w w')(d:e3 τ τ' w)(b:Below B w w'):∀{l:List Fr}{v:C4},H6 B τ w v l->∀{n:Nat},TI X n->l.length<=n->H6 B τ' w' v l
 |[],_,h,_,_,_=>h
 | c::r,v,h,n,hX,hn=>by
   obtain⟨a,pa,m,mp,vo,tm,j,f,g,i⟩:=h;rw[Dp]at hn;exact⟨a,pa,m,mp,vo,tm,j,f,g.keep e d b hX O,H6.keep e d b i hX O⟩
theorem YX.keep{G:Gm}(i:YX G τ w)(g:d1 (fun k=>X (τ k)) w w')(e:e3 τ τ' w)(d:Below G.B w w')(c:¬X .funs/\¬X .code):YX G τ' w':=by
 obtain⟨b,⟨n,a⟩,j⟩:=i;refine⟨(e _ a.lt).trans b,⟨n,a.wd (g.block _ a.lt (by rw[b];exact c.1))⟩,fun s f l=>?_⟩;obtain⟨r,q,m,o,p⟩:=j s f l;exact⟨r,q,m,o.below d Zr,p.keep g e d c.2⟩
theorem s0.keep{G:Gm}{b:List (List Int)}{j:List Nat}(m:s0 G τ w b j)(f:d1 (fun k=>X (τ k)) w w')(e:e3 τ τ' w)(d:¬X .arrs/\∀k,¬X (.arr k)):s0 G τ' w' b j:=by
 obtain⟨c,o,p,⟨n,a⟩,q⟩:=m;refine⟨(e _ a.lt).trans c,o,p,⟨n,a.wd (f.block _ a.lt (by rw[c];exact d.1))⟩,fun k g l r s=>?_⟩;obtain⟨t,u,v⟩:=q k g l r s;have i:=kj f e t (d.2 k) u;exact⟨i.1,i.2,v⟩
theorem TG.keep{G:Gm}{b:List (List Int)}(a:TG G τ w b)(e:d1 (fun k=>X (τ k)) w w')(d:e3 τ τ' w)(c:¬X .arrs/\∀k,¬X (.arr k)):TG G τ' w' b:=by
 obtain⟨f,a⟩:=a;exact⟨f,a.keep e d c⟩
theorem eS.below{G:Gm}{m:Vm}{vi vv pa vo:C4}(a:eS G τ w m vi vv pa vo)(d:d1 (fun k=>X (τ k)) w w')(b:¬X .gl):Below G.B w w':=
 d.below a.hB fun k c=>by rw[a.old k c];exact b
end
abbrev zbj(a b:Int):PanicEntry:={ v:=.iface 68 (.agg #[(a:Int),(b:Int)]),recovered:=false }
def zas(c:Option Int)(t:RS):PanicEntry:=match c with
 |some n=>zbj 1 n
 |none=>zbj t.stat 0
def gI(G:Gm)(w:C3)(m:Vm)(v:C4)(e:Ending)(w':C3):Prop:=e=.returned v/\(∃τ,MW G τ w' m)/\Below G.B w w'
def yu(G:Gm)(w:C3)(c:Option Int)(t:RS)(e:Ending)(w':C3):Prop:=e=.panicked [zas c t]/\(∃τ v cs,MW G τ w' ⟨t,v,cs⟩)/\Below G.B w w'
section
variable {G:Gm}{τ:Nat->Lb} {w w':C3} {m m':Vm} {vi vv pa vo vi' vv' pa' vo':C4}
abbrev XB:Lb->Prop:=fun l=>l=Lb.mach
abbrev XN:Lb->Prop:=fun _=>False
theorem eS.lt(h:eS G τ w m vi vv pa vo):G.b<w.heap.size:=zB h.box
theorem eS.hBb(c:eS G τ w m vi vv pa vo):G.B<=G.b:=by
 rcases Cc G.b G.B with a|a
 .have:=c.old _ a
  rw[c.lab]at this;cases this
 .exact a
theorem eS.boxed(a:eS G τ w m vi vv pa vo)(j:∀k,k≠G.b->w'.heap[k]?=w.heap[k]?)(z:w.heap.size=w'.heap.size)(u:w'.os=w.os)(x:w'.tape=w.tape)(t:w'.output=w.output)
 (r:w'.heap[G.b]?=some (YY G vi' vv' pa' vo' m'.s)) (A:lQ G.B w vi' m'.s.inp) (val:g4 G.B τ .vals w vv' m'.v) (out:g4 G.B τ .outs w vo' m'.s.o) (l:H6 G.B τ w pa' m'.cs) (q:m'.s.arr=m.s.arr)
 (F:eJ m'.v) (D:eJ m'.s.inp) (E:m'.s.o.length<=m'.s.cost) (C:m'.s.cost+m'.s.fuel<=1000000000):eS G τ w' m' vi' vv' pa' vo'/\Below G.B w w':=by
 have c:d1 (fun k=>XB (τ k)) w w':=⟨u,x,t,Dt z,fun k _ y=>j k fun e=>y (by rw[e];exact a.lab)⟩
 have f:=e3.refl τ w;have g:Below G.B w w':=a.below (X:=XB) c (Us);have p:∀n,TI XB n:=fun n=>⟨Us,fun d _=>⟨Us,Us,fun i=>⟨Us,Us⟩⟩⟩
 refine⟨⟨Xk,a.old,a.tab.below g,a.pok,r,a.lab,A.below g Zr,val.keep (X:=XB) c f (Us),out.keep (X:=XB) c f (Us),l.keep (X:=XB) c f g (p _) Zr,a.wz.keep (X:=XB) c f g ⟨Us,Us⟩,?_,F,D,E,C,fun k o j=>⟨(a.kp k o j).1,(kj (X:=XB) c f (a.kp k o j).1 Us (a.kp k o j).2).2⟩⟩,g⟩;rw[q];exact a.arr.keep (X:=XB) c f ⟨Us,fun k=>Us⟩
theorem eS.keepB(a:eS G τ w m vi vv pa vo)(c:Cx w w'):eS G τ w' m vi vv pa vo:=by
 have b:d1 (fun k=>XN (τ k)) w w':=d1.wb _ c;have e:=e3.refl τ w;have f:=c.mono a.hB;exact⟨Dr a.hB c.size,a.old,a.tab.below f,a.pok,(c.block _ a.lt).trans a.box,a.lab,a.inp.below f Zr,a.val.keep (X:=XN) b e id,a.o.keep (X:=XN) b e id,a.frs.keep (X:=XN) b e f ⟨id,fun d _=>⟨id,id,fun i=>⟨id,id⟩⟩⟩ Zr,a.wz.keep (X:=XN) b e f ⟨id,id⟩,a.arr.keep (X:=XN) b e ⟨id,fun _=>id⟩,a.nv,a.ni,a.no,a.lim,fun k o g=>⟨(a.kp k o g).1,(c.block k (zB (a.kp k o g).2)).trans (a.kp k o g).2⟩⟩
theorem eS.wt(d:eS G τ w m vi vv pa vo)(i:Nat)(a:C4)(f:(w.setCell (G.b,i) a).heap[G.b]?=some (YY G vi' vv' pa' vo' m'.s))(j:lQ G.B w vi' m'.s.inp)(val:g4 G.B τ .vals w vv' m'.v)(out:g4 G.B τ .outs w vo' m'.s.o)(c:H6 G.B τ w pa' m'.cs)(e:m'.s.arr=m.s.arr)
 (q:eJ m'.v) (n:eJ m'.s.inp) (p:m'.s.o.length<=m'.s.cost) (l:m'.s.cost+m'.s.fuel<=1000000000):eS G τ (w.setCell (G.b,i) a) m' vi' vv' pa' vo'/\Below G.B w (w.setCell (G.b,i) a):=
 d.boxed (fun k g=>Dx w _ a k g) Uu rfl rfl rfl f j val out c e q n p l
theorem g4.form{B:Nat}{l:Lb}{v:C4}{a:List Int}(d:g4 B τ l w v a):∃b c,v=.slice b a.length c:=zb d.1
theorem g4.cut{B:Nat}{l:Lb}{d:Option Addr}{c:Nat}{q x:List Int}(e:g4 B τ l w (.slice d (q++x).length c) (q++x)):g4 B τ l w (.slice d q.length c) q:=by
 have f:=LG e.1 (m:=q.length) (by rw[Dn];omega);rw[Nat.mul_one,Yf,List.take_left' Ur]at f
 exact⟨f,fun b g=>e.2 b (by
  cases d with
  |none=>exact g
  |some a=>exact g)⟩
end
theorem zbk(q:List Int)(x:Int)(l:List Int):((q++x::l).map (Value.int .i64))[q.length]?=some (.int .i64 x):=by
 rw[Yl,Yi Zr,Yx];rfl
theorem eS.wj{G:Gm}{τ:Nat->Lb}{w:C3}{m:Vm}{vi vv pa vo:C4}(a:eS G τ w m vi vv pa vo){q:List Int}{x:Int}(j:m.v=q++[x]):
 ∃g c,vv=.slice (some ⟨g,0,none⟩) (q.length+1) c/\q.length<c/\g<w.heap.size/\w.cell? ⟨g,q.length,none⟩=some (.int .i64 x)/\eF x/\
   eS G τ (w.setCell (G.b,3) (.slice (some ⟨g,0,none⟩) q.length c)) ⟨m.s,q,m.cs⟩ vi (.slice (some ⟨g,0,none⟩) q.length c) pa vo/\Below G.B w (w.setCell (G.b,3) (.slice (some ⟨g,0,none⟩) q.length c)):=by
 obtain⟨s,v,cs⟩:=m;dsimp only at j;subst j;have e:=a.val;obtain⟨_,c,u⟩:=e.form;subst u;obtain⟨g,_,d,_,l,i,p,_⟩:=vV e.1 Ur;injection d with d _ k;subst d k;have r:(q++[x]).length=q.length+1:=Ur
 have i:(q++[x]).length<=c:=i;have f:=a.wt (m':=⟨s,q,cs⟩) (vv':=.slice (some ⟨g,0,none⟩) q.length c) 3 (.slice (some ⟨g,0,none⟩) q.length c) (D0 a.box _) a.inp e.cut a.o a.frs rfl (fun n t=>a.nv n (List.mem_append_left _ t)) a.ni a.no a.lim;exact⟨g,c,by rw[r],O,l,p _ _ (zbk q x []),a.nv x (Yw _ (List.mem_singleton.2 rfl)),f.1,f.2⟩
theorem yF{b g n c:Nat}{x:Int}{w:C3}{d f i j k l m o p:C4}{T:TypeId}(a:w.heap[b]?=some (.cells #[d,f,i,.slice (some ⟨g,0,none⟩) (n+1) c,j,k,l,m,o,p] T (0,0)))(_:n<c)(_:g<w.heap.size)(_:w.cell? (g,n)=some (.int .i64 x))(_:n<=2000000000):
 Cy 96 #[(b,0)] w fun e w'=>e=.returned (x:Int)/\w.setCell (b,3) (.slice (some ⟨g,0,none⟩) n c)=w':=by
 obtain⟨⟨_,_,_,_,_,_,_,_,_,_⟩,_⟩:=zJ a;have r:=zB a;have q:n<=n+1:=Cd _
 have s:IntKind.i64.wrap (((n+1 :Nat):Int)-1)=(n:Int):=by
  rw[IntWalk.i64_in]<;>omega
 clear a;go_enter func96,ntmps96;go_wp2_with fail;go_ret;exact⟨rfl,rfl⟩
theorem kr{G:Gm}{τ:Nat->Lb}{w:C3}{m:Vm}(n:MW G τ w m){q:List Int}{x:Int}(o:m.v=q++[x])(l:q.length<=2000000000):
 Cy 96 #[(G.b,0)] w (gI G w ⟨m.s,q,m.cs⟩ (.int .i64 x)):=by
 obtain⟨vi,vv,pa,vo,a⟩:=n;obtain⟨g,c,rfl,d,f,i,_,j,k⟩:=a.wj o;refine(yF a.box d f i l).mono ?_;rintro e w' ⟨rfl,rfl⟩;exact⟨rfl,⟨τ,_,_,_,_,j⟩,k⟩
section
variable {G:Gm} {τ τ':Nat->Lb} {w w':C3} {m m':Vm} {vi vv pa vo vi' vv' pa' vo':C4}{X:Lb->Prop}
theorem eS.step(a:eS G τ w m vi vv pa vo)(c:d1 (fun k=>X (τ k)) w w')(d:e3 τ τ' w)(g:¬X .gl)(n:¬X .funs/\¬X .code)(l:w'.heap[G.b]?=some (YY G vi' vv' pa' vo' m'.s))(p:lQ G.B w' vi' m'.s.inp)(val:g4 G.B τ' .vals w' vv' m'.v)(out:g4 G.B τ' .outs w' vo' m'.s.o)
 (j:H6 G.B τ' w' pa' m'.cs) (i:TG G τ' w' m'.s.arr) (u:eJ m'.v) (r:eJ m'.s.inp) (t:m'.s.o.length<=m'.s.cost) (q:m'.s.cost+m'.s.fuel<=1000000000):eS G τ' w' m' vi' vv' pa' vo'/\Below G.B w w':=by
 have f:=a.below c g;exact⟨⟨Dr a.hB c.size,fun k e=>(d k Xk).trans (a.old k e),a.tab.below f,a.pok,l,(d _ a.lt).trans a.lab,p,val,out,j,a.wz.keep c d f n,i,u,r,t,q,fun k o e=>kj c d (a.kp k o e).1 g (a.kp k o e).2⟩,f⟩
theorem FZ{W:C3}{v v':C4}{l:Lb}(_:w.heap.size<=W.heap.size)(e:kn W v v')(d:∀b,v.ownBlock=some b->τ b=l):∃τ',e3 τ τ' w/\∀b,v'.ownBlock=some b->τ' b=l:=by
 rcases e with c|⟨g,c,_⟩
 .exact⟨τ,e3.refl _ _,fun b a=>d b (c▸a)⟩
 .refine⟨TH τ g l,e3.lbl τ w l O,fun b a=>?_⟩
  rw[c]at a;injection a with a;subst a;exact fS τ g l
abbrev XV(l:Lb):Lb->Prop:=fun x=>x=.mach\/x=l
theorem ke{l x:Lb}(b:x≠.mach)(c:x≠l):¬XV l x:=fun a=>a.elim b c
theorem ON(n:Nat):TI (XV .vals) n:=⟨ke Us Us,fun d _=>⟨ke Us Us,ke Us Us,fun i=>⟨ke Us Us,ke Us Us⟩⟩⟩
theorem OO(n:Nat):TI (XV .outs) n:=⟨ke Us Us,fun d _=>⟨ke Us Us,ke Us Us,fun i=>⟨ke Us Us,ke Us Us⟩⟩⟩
theorem eS.da(c:eS G τ w m vi vv pa vo){W w8:C3}{v v':C4}{l:Lb}{j:List Int}(f:∀b,v.ownBlock=some b->τ b=l)(q:l≠.mach)(d:Cx w W)(p:W.grownBy w8 v.ownBlock)(r:kn W v v')(t:w8.ownsRow G.B 3 1 v' j.length (j.map (Value.int .i64)))(i:Nat)(g:C4):
 (∃τ',e3 τ τ' w/\g4 G.B τ' l (w8.setCell (G.b,i) g) v' j)/\d1 (fun k=>XV l (τ k)) w (w8.setCell (G.b,i) g)/\w8.heap[G.b]?=some (YY G vi vv pa vo m.s):=by
 obtain⟨τ',o,n⟩:=FZ d.size r f;have u:v.ownBlock≠some G.b:=fun e=>by have:=f _ e;rw[c.lab]at this;exact q this.symm
 have x:v'.ownBlock≠some G.b:=fun e=>by
  have:=n _ e;rw[o _ c.lt,c.lab]at this;exact q this.symm
 refine⟨⟨τ',o,zZ t fun k a=>Dx w8 _ _ k (fun e=>x (by have e:k=G.b:=e;rw[<-e];exact a)),n⟩,?_,?_⟩
 .refine((d1.wb (fun k=>XV l (τ k)) d).trans (d1.grown (X:=fun k=>v.ownBlock=some k) p fun k a=>a) fun k _ a=>.inr (f k a)).trans (d1.set (X:=fun k=>k=G.b) w8 rfl i g) fun k _ a=>.inl (by have a:k=G.b:=a;rw[a];exact c.lab)
 .exact((p.block _ (D6 c.lt d.size) fun e=>u e.symm).trans (d.block _ c.lt)).trans c.box
theorem eS.push(a:eS G τ w m vi vv pa vo){W w8:C3}{v':C4}{n:Int}(r:Cx w W)(t:W.grownBy w8 vv.ownBlock)(y:kn W vv v')(g:w8.ownsRow G.B 3 1 v' (m.v.length+1) (m.v.map (Value.int .i64)++[.int .i64 n]))(u:eF n):
 w8.heap[G.b]?=some (YY G vi vv pa vo m.s)/\(∃τ vv,eS G τ (w8.setCell (G.b,3) v') ⟨m.s,m.v++[n],m.cs⟩ vi vv pa vo)/\Below G.B w (w8.setCell (G.b,3) v')/\d1 (fun k=>XV .vals (τ k)) w (w8.setCell (G.b,3) v'):=by
 have g:w8.ownsRow G.B 3 1 v' (m.v++[n]).length ((m.v++[n]).map (Value.int .i64)):=by rw[Dn,Yf];exact g
 obtain⟨⟨τ',f,q⟩,c,i⟩:=a.da (l:=.vals) a.val.2 Us r t y g 3 v';have j:=a.below (X:=XV .vals) c (ke Us Us)
 have p:=a.step (X:=XV .vals) (m':=⟨m.s,m.v++[n],m.cs⟩) c f (ke Us Us) ⟨ke Us Us,ke Us Us⟩ (D0 i _) (a.inp.below j Zr) q (a.o.keep (X:=XV .vals) c f (ke Us Us))
  (a.frs.keep (X:=XV .vals) c f j (ON _) Zr) (a.arr.keep (X:=XV .vals) c f ⟨ke Us Us,fun k=>ke Us Us⟩) (fun x d=>by
    rcases List.mem_append.1 d with d|d
    .exact a.nv x d
    .rw[List.mem_singleton.1 d];exact u) a.ni a.no a.lim
 exact⟨i,⟨τ',_,p.1⟩,p.2,c⟩
theorem eS.print(a:eS G τ w m vi vv pa vo){W w8:C3}{v':C4}{n:Int}(q:Cx w W)(t:W.grownBy w8 vo.ownBlock)(u:kn W vo v')(f:w8.ownsRow G.B 3 1 v' (m.s.o.length+1) (m.s.o.map (Value.int .i64)++[.int .i64 n]))(r:m.s.o.length+1<=m.s.cost):
 w8.heap[G.b]?=some (YY G vi vv pa vo m.s)/\(∃τ,MW G τ (w8.setCell (G.b,7) v') ⟨{ m.s with o:=m.s.o++[n] },m.v,m.cs⟩)/\Below G.B w (w8.setCell (G.b,7) v'):=by
 have f:w8.ownsRow G.B 3 1 v' (m.s.o++[n]).length ((m.s.o++[n]).map (Value.int .i64)):=by rw[Dn,Yf];exact f
 obtain⟨⟨τ',d,p⟩,c,g⟩:=a.da (l:=.outs) a.o.2 Us q t u f 7 v';have i:=a.below (X:=XV .outs) c (ke Us Us)
 have j:=a.step (X:=XV .outs) (m':=⟨{ m.s with o:=m.s.o++[n] },m.v,m.cs⟩) c d (ke Us Us) ⟨ke Us Us,ke Us Us⟩ (D0 g _) (a.inp.below i Zr) (a.val.keep (X:=XV .outs) c d (ke Us Us)) p
  (a.frs.keep (X:=XV .outs) c d i (OO _) Zr) (a.arr.keep (X:=XV .outs) c d ⟨ke Us Us,fun k=>ke Us Us⟩) a.nv a.ni (by rw[Dn];exact r) a.lim
 exact⟨g,⟨τ',_,_,_,_,j.1⟩,j.2⟩
end
theorem s3{G:Gm}{τ:Nat->Lb}{w:C3}{m:Vm}{vi vv pa vo:C4}(a:eS G τ w m vi vv pa vo)(n:Int)(r:eF n)(_:m.v.length<=2000000000):
 Cy 97 #[(G.b,0),(n:Int)] w fun e w'=>e=.returned (.tuple #[])/\(∃τ vv,eS G τ w' ⟨m.s,m.v++[n],m.cs⟩ vi vv pa vo)/\Below G.B w w'/\d1 (fun k=>XV .vals (τ k)) w w':=by
 obtain⟨H,q,u,x,y⟩:=info_parts xK;obtain⟨j,c,g⟩:=a.val.form;obtain⟨⟨_,_,_,F,_,_,_,_,_,_⟩,_⟩:=zJ a.box;have K:=a.lt;have I:=a.hB;rw[g]at F;have l:=U g;have E:=C0 ((w.alloc (.cells #[(n:Int)] 3)).ownsRow G.B 3 1 (.slice j m.v.length c) m.v.length (m.v.map (Value.int .i64))) (g▸qD a.val.1 ((D1 w.heap.size w).alloc Zr _) Zr);have A:=U (xJ w [.int .i64 n] 3);have f:=U (Do q (Do u (Do x y)));have z:=U a;have C:=U r;clear a g q u x y r;go_enter func97,ntmps97
 go_wp2_with (at_builtin;refine zy rfl (.tmp 8) (.tmp 10) _ rfl G.B 3 H _ 1 8 underlying23 f.o.1 f.o.2.1 f.o.2.2.1 f.o.2.2.2 rfl O (.slice j m.v.length c) m.v.length _ rfl (by exact E.o) ⟨w.heap.size,0,none⟩ 1 1 [.int .i64 n] rfl rfl (by exact A.o) Uw Uv O Uq O ?_
              intro _ w8 i p t;obtain⟨_,_,rfl⟩:=zb i;have d:=z.o.push (n:=n) ((D1 w.heap.size w).alloc Zr (.cells #[(n:Int)] 3)) (by rw[l.o];exact p) (by rw[l.o];exact t) i C.o;have D:=U (Do d.2.1 d.2.2);obtain⟨⟨_,_,_,_,_,_,_,_,_,_⟩,_⟩:=zJ d.1;have J:G.b<w8.heap.size:=zB d.1
              clear i p t d)
 go_end0
 exact⟨rfl,D.o⟩
theorem yb{G:Gm}{τ:Nat->Lb}{w:C3}{m:Vm}(g:MW G τ w m)(n:Int)(i:eF n)(f:m.v.length<=2000000000):
 Cy 97 #[(G.b,0),(n:Int)] w (gI G w ⟨m.s,m.v++[n],m.cs⟩ (.tuple #[])):=by
 obtain⟨vi,vv,pa,vo,a⟩:=g;refine(s3 a n i f).mono ?_;rintro e w' ⟨rfl,⟨τ1,_,c⟩,d,_⟩;exact⟨rfl,⟨τ1,_,_,_,_,c⟩,d⟩
theorem OP{G:Gm}{τ:Nat->Lb}{w:C3}{m:Vm}(l:MW G τ w m)(j:m.s.stat=0):
 Cy 93 #[(G.b,0)] w fun e w'=>match jJ m.s with
  |.ok _ t=>gI G w ⟨t,m.v,m.cs⟩ (.tuple #[]) e w'
  |.fin t=>yu G w none t e w':=by
 obtain⟨vi,vv,pa,vo,a⟩:=l;obtain⟨⟨g,i,out,d,c,_,k⟩,v,cs⟩:=m;dsimp only at j;subst j;obtain⟨⟨_,_,_,_,_,_,_,_,_,_⟩,_⟩:=zJ a.box;have p:=a.lt;have n:d+c<=1000000000:=a.lim;rcases c with _|c
 .have f:=C0 (eS G τ w ⟨⟨g,i,out,d,0,0,true⟩,v,cs⟩ vi vv pa vo) ⟨a.hB,a.old,a.tab,a.pok,a.box,a.lab,a.inp,a.val,a.o,a.frs,a.wz,a.arr,a.nv,a.ni,a.no,a.lim,a.kp⟩
  clear a;show Calls _ _ _ _ (fun e w'=>yu G w none ⟨g,i,out,d,0,0,true⟩ e w');go_enter func93,ntmps93;go_wp2;exact⟨rfl,rfl,⟨τ,v,cs,_,_,_,_,f.o⟩,D1 _ _⟩
 .have f:=U (a.wt (m':=⟨⟨g,i,out,d,c,0,k⟩,v,cs⟩) 9 (.int .i64 (c:Int)) (D0 a.box _) a.inp a.val a.o a.frs rfl a.nv a.ni a.no (by show d+c<=_;omega))
  have q:(((c+1 :Nat):Int) == 0)=false:=Uq
  have r:IntKind.i64.wrap (((c+1 :Nat):Int)-1)=(c:Int):=Ux
  clear a;show Calls _ _ _ _ (fun e w'=>gI G w ⟨⟨g,i,out,d,c,0,k⟩,v,cs⟩ (.tuple #[]) e w');go_enter func93,ntmps93;go_wp2_with fail
  go_end0
  exact⟨rfl,⟨τ,_,_,_,_,f.o.1⟩,f.o.2⟩
end Go.Proofs.YthcmenajdcbnnaaGreatDoor
namespace Go.Proofs.YthcmenajdcbnnaaGreatDoor
open Go.RowKit Tryz
theorem F0{k:IntKind}{a b:Int}(h:a=b):Ending.returned (.int k a)=.returned (.int k b):=by rw[h]
theorem pH(b:Bool)(w:C3):Cy 143 #[.bool b] w (Cw (XW b:Int) w):=by
 cases b
 all_goals
  go_enter func143,ntmps143;go_wp2;go_ret;exact⟨rfl,rfl⟩
theorem TJ(op a:Int)(b:(Lit.int .i64 a).wf=true)(w:C3):Cy 113 #[(op:Int),(a:Int)] w (Cw (EC op a:Int) w):=by
 have c:=U (XU a b);clear b;go_enter func113,ntmps113;go_wp2_with (go_at_call 143;refine(pH _ _).mono ?_;rintro e w' ⟨rfl,rfl⟩)
 all_goals go_ret
 all_goals refine⟨F0 ?_,rfl⟩
 all_goals go_light
 all_goals have d:=c.o
 all_goals clear c
 all_goals simp_all [EC,XW,zdx,zco,zcp,zcq]
theorem mO{a b:Int}{c d:Bool}(e:a=b)(f:c=d):Ending.returned (.tuple #[(a:Int),.bool c])=.returned (.tuple #[(b:Int),.bool d]):=by rw[e,f]
theorem OQ{a b:Bool}(h:a=b):Ending.returned (.bool a)=.returned (.bool b):=by rw[h]
theorem JI(op a b:Int)(c:12<=op)(d:op<=17)(w:C3):Cy 159 #[(op:Int),(a:Int),(b:Int)] w (Cw (cmp op a b) w):=by
 obtain rfl|rfl|rfl|rfl|rfl|rfl:op=12\/op=13\/op=14\/op=15\/op=16\/op=17:=O
 all_goals clear c d
 all_goals
  go_enter func159,ntmps159;go_wp2;go_ret;exact⟨OQ (by simp[cmp]),rfl⟩
theorem JJ(op a b:Int)(w:C3):Cy 158 #[(op:Int),(a:Int),(b:Int)] w (Cw (sft op a b:Int) w):=by
 have e:=IF b;have c:0<=b % 64:=O
 have d:b % 64<=63:=O
 go_enter func158,ntmps158;go_wp2
 all_goals go_ret
 all_goals refine⟨F0 ?_,rfl⟩
 all_goals go_light
 all_goals simp_all [sft,cnt,IntKind.wrap_u64]
theorem F1(op a b:Int)(w:C3):Cy 157 #[(op:Int),(a:Int),(b:Int)] w (Cw (.tuple #[(dvd op a b:Int),.bool (!decide (b=0))]) w):=by
 by_cases c:b=0
 .subst c
  go_enter func157,ntmps157;go_wp2
  go_ret2
  exact⟨mO (by simp[dvd]) Ur,rfl⟩
 .go_enter func157,ntmps157
  go_wp2
  all_goals go_ret2
  all_goals refine⟨mO ?_ ?_,rfl⟩
  all_goals go_light
  all_goals simp_all [dvd]
theorem YZ(op a b:Int)(h:1<=op/\op<=17)(w:C3):Cy 144 #[(op:Int),(a:Int),(b:Int)] w (Cw (.tuple #[(pR op a b:Int),.bool (pQ op b)]) w):=by
 obtain rfl|rfl|rfl|rfl|rfl|rfl|rfl|rfl|rfl|rfl|rfl|rfl|rfl|rfl|rfl|rfl|rfl:op=1\/op=2\/op=3\/op=4\/op=5\/op=6\/op=7\/op=8\/op=9\/op=10\/op=11\/op=12\/op=13\/op=14\/op=15\/op=16\/op=17:=O
 all_goals clear h
 all_goals
  go_enter func144,ntmps144;go_wp2_with (first|(go_at_call 157;refine(F1 _ _ _ _).mono ?_;rintro e w' ⟨rfl,rfl⟩)|(go_at_call 158;refine(JJ _ _ _ _).mono ?_;rintro e w' ⟨rfl,rfl⟩)|(go_at_call 159;refine(JI _ _ _ Up Up _).mono ?_;rintro e w' ⟨rfl,rfl⟩)|(go_at_call 143;refine(pH _ _).mono ?_;rintro e w' ⟨rfl,rfl⟩))
  all_goals go_ret2
  all_goals exact⟨mO (by simp[pR]) (by simp[pQ]),rfl⟩
theorem TK(op a b:Int)(c:op<1\/17<op)(w:C3):Cy 144 #[(op:Int),(a:Int),(b:Int)] w (Cw (.tuple #[(0:Int),.bool false]) w):=by
 have n1:(op == 1)=false:=Uq
 have n2:(op == 2)=false:=Uq
 have m:(op == 3)=false:=Uq
 have n:(op == 4)=false:=Uq
 have o:(op == 5)=false:=Uq
 have p:(op == 6)=false:=Uq
 have q:(op == 7)=false:=Uq
 have r:(op == 8)=false:=Uq
 have s:(op == 9)=false:=Uq
 have d:(op == 10)=false:=Uq
 have e:(op == 11)=false:=Uq
 have f:(op == 12)=false:=Uq
 have g:(op == 13)=false:=Uq
 have i:(op == 14)=false:=Uq
 have j:(op == 15)=false:=Uq
 have k:(op == 16)=false:=Uq
 have l:(op == 17)=false:=Uq
 clear c;go_enter func144,ntmps144;go_wp2
 go_ret2
 exact⟨rfl,rfl⟩
theorem F2(op a b:Int)(w:C3):Cy 144 #[(op:Int),(a:Int),(b:Int)] w (Cw (.tuple #[(pR op a b:Int),.bool (pQ op b)]) w):=by
 by_cases h:1<=op/\op<=17
 .exact YZ op a b h w
 .refine(TK op a b O w).mono ?_
  rintro e w' ⟨rfl,rfl⟩;exact⟨mO (Q9 op a b O).symm (RA op b O).symm,rfl⟩
end Go.Proofs.YthcmenajdcbnnaaGreatDoor
namespace Go.Proofs.YthcmenajdcbnnaaGreatDoor
open Go.RowKit Tryz Go.Maps
theorem Y0{G:Gm}{τ:Nat->Lb}{w:C3}{m:Vm}(g:MW G τ w m){q:List Int}{a b:Int}(k:m.v=q++[a]++[b])(_:q.length<=1000000000)(z:eF a)(op:Int)(l:pQ op b=false):
 Cy 114 #[(G.b,0),(op:Int)] w (yu G w none (yP m.s 2)):=by
 have r:=U g;have x:=U k;have A:(q++[a]).length<=2000000000:=Uq
 have B:=U (LN op b z);have y:=U l;clear g k l;go_enter func114,ntmps114
 go_wp2_with (first
  | (go_at_call 96;(with_reducible refine(kr r.o x.o A).mono ?_);rintro e _ ⟨rfl,⟨τ1,i⟩,d⟩
     have t:=U i;have n:=U d
     clear i d)
  | (go_at_call 96;(with_reducible refine(kr t.o rfl O).mono ?_);rintro e _ ⟨rfl,⟨τ2,j⟩,f⟩
     have u:=U j;have p:=U f
     clear j f)
  | (go_at_call 144;(with_reducible refine(F2 op a b _).mono ?_);rintro e _ ⟨rfl,rfl⟩
     rw[y.o]))
 obtain⟨vi,vv,pa,vo,c⟩:=u.o;exact⟨rfl,rfl,⟨τ2,_,_,vi,vv,pa,vo,⟨c.hB,c.old,c.tab,c.pok,c.box,c.lab,c.inp,c.val,c.o,c.frs,c.wz,c.arr,c.nv,c.ni,c.no,c.lim,c.kp⟩⟩,n.o.trans p.o⟩
theorem TL{G:Gm}{τ:Nat->Lb}{w:C3}{m:Vm}(g:MW G τ w m){q:List Int}{a b:Int}(l:m.v=q++[a]++[b])(_:q.length<=1000000000)(D:eF a)(op:Int)(n:pQ op b=true):
 Cy 114 #[(G.b,0),(op:Int)] w (gI G w ⟨m.s,q++[pR op a b],m.cs⟩ (.tuple #[])):=by
 have u:=U g;have B:=U l;have E:(q++[a]).length<=2000000000:=Uq
 have A:=U (LN op b D);have C:=U n;clear g l n;go_enter func114,ntmps114
 go_wp2_with (first
  | (go_at_call 96;(with_reducible refine(kr u.o B.o E).mono ?_);rintro e _ ⟨rfl,⟨τ1,i⟩,c⟩
     have x:=U i;have p:=U c
     clear i c)
  | (go_at_call 96;(with_reducible refine(kr x.o rfl O).mono ?_);rintro e _ ⟨rfl,⟨τ2,j⟩,d⟩
     have y:=U j;have r:=U d
     clear j d)
  | (go_at_call 144;(with_reducible refine(F2 op a b _).mono ?_);rintro e _ ⟨rfl,rfl⟩
     rw[C.o])
  | (go_at_call 97;(with_reducible refine(yb y.o (pR op a b) A.o Ve).mono ?_);rintro e _ ⟨rfl,k,f⟩
     have z:=U k;have t:=U f
     clear k f))
 go_end0
 exact⟨rfl,z.o,(p.o.trans r.o).trans t.o⟩
theorem TM{G:Gm}{τ:Nat->Lb}{w:C3}{m:Vm}(i:MW G τ w m)(g:m.s.inp=[]):
 Cy 116 #[(G.b,0)] w (yu G w none (yP m.s 4)):=by
 obtain⟨vi,vv,pa,vo,a⟩:=i;obtain⟨⟨_,_,e,_,_,_,_,_,_,_⟩,_⟩:=zJ a.box;have k:=a.lt;obtain⟨_,c,d,_⟩:=a.inp.1.form;rw[g]at d;rw[d]at e;have f:=C0 (eS G τ w ⟨yP m.s 4,m.v,m.cs⟩ vi vv pa vo) ⟨a.hB,a.old,a.tab,a.pok,a.box,a.lab,a.inp,a.val,a.o,a.frs,a.wz,a.arr,a.nv,a.ni,a.no,a.lim,a.kp⟩;have j:((([]:List Int).length:Nat):Int)=0:=rfl;rw[Du]at e;clear a d;go_enter func116,ntmps116;go_wp2;exact⟨rfl,rfl,⟨τ,_,_,_,_,_,_,f.o⟩,D1 _ _⟩
theorem OR{G:Gm}{τ:Nat->Lb}{w:C3}{m:Vm}(H:MW G τ w m){x:Int}{d:List Int}(l:m.s.inp=x::d)(R:m.v.length<=2000000000):
 Cy 116 #[(G.b,0)] w (gI G w ⟨{ m.s with inp:=d },m.v++[x],m.cs⟩ (.tuple #[])):=by
 have E:=U H;obtain⟨vi,vv,pa,vo,a⟩:=H;obtain⟨⟨_,_,L,_,_,_,_,_,_,_⟩,_⟩:=zJ a.box;have ae:=a.lt;have aa:=a.hB;have I:eF x:=a.ni x (by rw[l];exact Y4 ..);obtain⟨_,c,r,y⟩:=a.inp.1.form;rw[l,Dp]at r y;have u:=a.inp;rw[r,l]at u;obtain⟨g,o,P,_,W⟩:=u.1.cells (i:=0) (t:=x) rfl;subst P;have ab:g<w.heap.size:=O
 rw[Nat.add_zero]at W;rw[r]at L;have ag:(((d.length+1 :Nat):Int) == 0)=false:=Uq
 have ah:0<d.length+1:=Ck _;have J:=U I;have C:=U l;clear a r u I l;go_enter func116,ntmps116
 go_wp2_with (first
  | (go_at_call 97;(with_reducible refine(yb E.o x J.o R).mono ?_);rintro e q ⟨rfl,⟨τ1,X,Z,V,Y,k⟩,F⟩
     obtain⟨⟨_,_,M,_,_,_,_,_,_,_⟩,_⟩:=zJ k.box;have p:lQ G.B q X (x::d):=C.o▸k.inp;obtain⟨_,N,rfl,_⟩:=p.1.form;have Q:(x::d).length<=N:=p.2 _ _ _ rfl;obtain⟨_,_,rfl,_,_⟩:=p.1.cells (i:=0) (t:=x) rfl;have S:(x::d).length=d.length+1:=rfl;rw[S]at M Q;have af:=k.lt;have ad:0<d.length+1:=Ck _;have D:=U p;have f:=U k;have z:=U F
     clear k F p))
 all_goals go_end0
 all_goals
  have K:∀j,lQ G.B q j d->eS G τ1 (q.setCell (G.b,2) j) ⟨{ m.s with inp:=d },m.v++[x],m.cs⟩ j Z V Y/\Below G.B q (q.setCell (G.b,2) j):=fun j T=>
   f.o.wt (m':=⟨{ m.s with inp:=d },m.v++[x],m.cs⟩) 2 j (D0 f.o.box _) T f.o.val f.o.o f.o.frs rfl f.o.nv (fun n y=>E.o.elim fun _ a=>a.elim fun _ a=>a.elim fun _ a=>a.elim fun _ a=>a.ni n (C.o▸Yz _ y)) f.o.no f.o.lim
  first
   |exact⟨rfl,⟨τ1,_,_,_,_,(K _ (FSq D.o)).1⟩,z.o.trans (K _ (FSq D.o)).2⟩
   |exact⟨rfl,⟨τ1,_,_,_,_,(K _ (FT O _)).1⟩,z.o.trans (K _ (FT O _)).2⟩
theorem eS.drew{G:Gm}{τ:Nat->Lb}{w:C3}{m:Vm}{vi vv pa vo:C4}(h:eS G τ w m vi vv pa vo):eS G τ w.drew m vi vv pa vo:=h.keepB Zb.drew
theorem s0.drew{G:Gm}{τ:Nat->Lb}{w:C3}{a:List (List Int)}{b:List Nat}(c:s0 G τ w a b):s0 G τ w.drew a b:=c.keep (X:=XN) (d1.drew _ w) (e3.refl τ w) ⟨id,fun _=>id⟩
theorem uY(w:C3):(zeroValue 23).run Tryz.prog w=.ok (.slice none 0 0) w:=by kernel_rfl
theorem s0.at{G:Gm}{τ:Nat->Lb}{w:C3}{b:List (List Int)}{a:List Nat}(e:s0 G τ w b a){td:C2}{k:Nat}{l:List Int}(n:ze G.p.wa td=some k)(d:b[k]?=some l):
 ∃g,a[k]?=some g/\JH G.p a b td=.slice (some ⟨g,0,none⟩) l.length l.length/\g<w.heap.size/\τ g=.arr k/\w.heap[g]?=some (FP l)/\eJ l/\l.length<=1000:=by
 have o:=(List.getElem?_eq_some_iff.1 d).1;obtain⟨g,c⟩:∃g,a[k]?=some g:=⟨_,Dz (by rw[e.rl];exact o)⟩
 obtain⟨i,f,j,m⟩:=e.row k g l c d;refine⟨g,c,?_,zB f,i,f,j,m⟩;unfold JH;rw[n];show arV (a.getD k 0,b.getD k [])=_;rw[Yk,Yk,c,d];rfl
def TN(G:Gm)(w:C3)(m:Vm)(q:List Int)(k i:Nat)(l:List Int)(e:Ending)(w':C3):Prop:=
 ∃g τ vi vv pa vo rows,e=.returned (.pointer (some ⟨g,i,none⟩))/\eS G τ w' ⟨m.s,q,m.cs⟩ vi vv pa vo/\s0 G τ w' m.s.arr rows/\rows[k]?=some g/\w'.heap[g]?=some (FP l)/\Below G.B w w'
theorem AV{G:Gm}{τ:Nat->Lb}{w:C3}{m:Vm}(S:MW G τ w m){q:List Int}{i:Int}(T:m.v=q++[i])(R:q.length<=2000000000){td:C2}{k:Nat}{l:List Int}(C:ze G.p.wa td=some k)(D:m.s.arr[k]?=some l)(x:td.size<=maxLen)(B:0<=i/\i<(l.length:Int)):
 Cy 115 #[(G.b,0),td] w (TN G w m q k i.toNat l):=by
 obtain⟨vi,vv,pa,vo,a⟩:=S;obtain⟨Z,j⟩:=a.arr;obtain⟨f,A,r,_,E,I,_,_⟩:=j.at C D;obtain⟨n,u⟩:=j.map;obtain⟨g,c,rfl,V,W,Y,_,K,L⟩:=a.wj T;have y:d1 (fun k=>XB (τ k)) w (w.setCell (G.b,3) (.slice (some ⟨g,0,none⟩) q.length c)):=d1.set (X:=fun k=>XB (τ k)) w a.lab 3 _;have z:=j.keep (X:=XB) y (e3.refl τ w) ⟨Us,fun _=>Us⟩
 have H:G.am≠G.b:=fun e=>by
  have:=j.lab;rw[e,a.lab]at this;cases this
 have N:=u.look (t:=71) underlying71 (uY w) x;rw[r]at N;have P:=(u.wd (w':=w.setCell ⟨G.b,3,none⟩ (.slice (some ⟨g,0,none⟩) q.length c)) (Dx w ⟨G.b,3,none⟩ _ G.am H)).look (t:=71) underlying71 (uY _) x;rw[r]at P;have Q:=(u.wd (w':=w.drew) rfl).look (t:=71) underlying71 (uY _) x;rw[r]at Q;have F:=(u.wd (w':=(w.setCell ⟨G.b,3,none⟩ (.slice (some ⟨g,0,none⟩) q.length c)).drew) (Dx w ⟨G.b,3,none⟩ _ G.am H)).look (t:=71) underlying71 (uY _) x;rw[r]at F;have ad:(Instr.lookup 71 (.map (some G.am)) (.string td) false).run Tryz.prog (w.drew.setCell (G.b,3) (.slice (some ⟨g,0,none⟩) q.length c))=.ok (.slice (some ⟨f,0,none⟩) l.length l.length) (w.drew.setCell (G.b,3) (.slice (some ⟨g,0,none⟩) q.length c)):=F;have J:(w.setCell (G.b,3) (.slice (some ⟨g,0,none⟩) q.length c)).heap[f]?=some (FP l):=(Dx w ⟨G.b,3,none⟩ _ f (fun e=>by have e:f=G.b:=e;rw[e,a.lab]at E;cases E)).trans I;have d:=U (Do K (Do L (Do z (Do A J))));obtain⟨⟨_,_,_,_,_,_,_,_,_,_⟩,_⟩:=zJ a.box;have ae:=a.lt;have af:¬i<0:=O
 have ag:¬(l.length:Int)<=i:=O
 have aa:0<=i:=B.1;have ab:i<(l.length:Int):=B.2;have M:=U a.box;clear a j r u I K L z A J y C D;go_enter func115,ntmps115;go_wp2_with fail
 go_region_law (first
  |(go_simp;go_at_call 96;(refine(yF (w:=w.drew) M.o V W Y R).mono ?_);rintro e _ ⟨rfl,rfl⟩))
 all_goals
  go_wp2_with fail;go_ret;exact⟨f,τ,_,_,_,_,Z,rfl,d.o.1.drew,d.o.2.2.1.drew,d.o.2.2.2.1,d.o.2.2.2.2,d.o.2.1.drew⟩
theorem F3{G:Gm}{τ:Nat->Lb}{w:C3}{m:Vm}(T:MW G τ w m){q:List Int}{i:Int}(W:m.v=q++[i])(F:q.length<=2000000000){td:C2}{k:Nat}{l:List Int}(B:ze G.p.wa td=some k)(C:m.s.arr[k]?=some l)(y:td.size<=maxLen)(_:¬(0<=i/\i<(l.length:Int))):
 Cy 115 #[(G.b,0),td] w (yu G w none (yP m.s 3)):=by
 obtain⟨vi,vv,pa,vo,d⟩:=T;obtain⟨_,f⟩:=d.arr;obtain⟨x,P,j,_,D,I,_,_⟩:=f.at B C;obtain⟨n,r⟩:=f.map;obtain⟨g,c,rfl,J,K,L,_,a,M⟩:=d.wj W;have A:d1 (fun k=>XB (τ k)) w (w.setCell (G.b,3) (.slice (some ⟨g,0,none⟩) q.length c)):=d1.set (X:=fun k=>XB (τ k)) w d.lab 3 _;have N:=f.keep (X:=XB) A (e3.refl τ w) ⟨Us,fun _=>Us⟩
 have H:G.am≠G.b:=fun e=>by
  have:=f.lab;rw[e,d.lab]at this;cases this
 have Q:=r.look (t:=71) underlying71 (uY w) y;rw[j]at Q;have R:=(r.wd (w':=w.setCell ⟨G.b,3,none⟩ (.slice (some ⟨g,0,none⟩) q.length c)) (Dx w ⟨G.b,3,none⟩ _ G.am H)).look (t:=71) underlying71 (uY _) y;rw[j]at R;have S:=(r.wd (w':=w.drew) rfl).look (t:=71) underlying71 (uY _) y;rw[j]at S;have E:=(r.wd (w':=(w.setCell ⟨G.b,3,none⟩ (.slice (some ⟨g,0,none⟩) q.length c)).drew) (Dx w ⟨G.b,3,none⟩ _ G.am H)).look (t:=71) underlying71 (uY _) y;rw[j]at E;have Z:(Instr.lookup 71 (.map (some G.am)) (.string td) false).run Tryz.prog (w.drew.setCell (G.b,3) (.slice (some ⟨g,0,none⟩) q.length c))=.ok (.slice (some ⟨x,0,none⟩) l.length l.length) (w.drew.setCell (G.b,3) (.slice (some ⟨g,0,none⟩) q.length c)):=E;have V:(w.setCell (G.b,3) (.slice (some ⟨g,0,none⟩) q.length c)).heap[x]?=some (FP l):=(Dx w ⟨G.b,3,none⟩ _ x (fun e=>by have e:x=G.b:=e;rw[e,d.lab]at D;cases D)).trans I;have u:=U (Do (show eS G τ (w.setCell (G.b,3) (.slice (some ⟨g,0,none⟩) q.length c)) ⟨yP m.s 3,q,m.cs⟩ vi (.slice (some ⟨g,0,none⟩) q.length c) pa vo from⟨a.hB,a.old,a.tab,a.pok,a.box,a.lab,a.inp,a.val,a.o,a.frs,a.wz,a.arr,a.nv,a.ni,a.no,a.lim,a.kp⟩) M);obtain⟨⟨_,_,_,_,_,_,_,_,_,_⟩,_⟩:=zJ d.box;have aa:=d.lt;have z:=U d.box;clear d f j r I a M N P V A B C;by_cases ab:i<0
 .go_enter func115,ntmps115
  exact Ik
 .have ad:(l.length:Int)<=i:=by omega
  go_enter func115,ntmps115;exact Ik
theorem zT{W:C3}{g:Nat}{b c d e f:C4}{T:TypeId}(a:W.heap[g]?=some (.cells #[b,c,d,e,f] T (0,0))):(W.cell? (g,0)=some b/\W.cell? (g,1)=some c/\W.cell? (g,2)=some d/\W.cell? (g,3)=some e/\W.cell? (g,4)=some f)/\∀o,W.frozen? ⟨g,o,none⟩=false:=
 ⟨⟨(Ds a 0).trans rfl,(Ds a 1).trans rfl,(Ds a 2).trans rfl,(Ds a 3).trans rfl,(Ds a 4).trans rfl⟩,fun o=>Vv⟩
theorem JK{G:Gm}{τ:Nat->Lb}{w:C3}{m:Vm}(k:MW G τ w m){c:Fr}(i:m.cs=[c])(n:Int):
 Cy 117 #[(G.b,0),(n:Int)] w (yu G w (some n) m.s):=by
 obtain⟨vi,vv,pa,vo,d⟩:=k;have j:=d.frs;rw[i]at j;obtain⟨a,pa',_,mp,_,tm,_,rfl,f,e⟩:=j;have e:pa'=.pointer none:=e;subst e;obtain⟨⟨_,_,_,_,_,_,_,_,_,_⟩,_⟩:=zJ d.box;obtain⟨⟨_,_,_,_,_⟩,_⟩:=zT f.box;have p:=d.lt;have l:=zB f.box;have g:=U (d.wt (m':=⟨m.s,m.v,[]⟩) 4 (.pointer none) (D0 d.box _) d.inp d.val d.o rfl rfl d.nv d.ni d.no d.lim);clear d f i;go_enter func117,ntmps117;go_wp2;exact⟨rfl,rfl,⟨τ,_,_,_,_,_,_,g.o.1⟩,g.o.2⟩
theorem OS{G:Gm}{τ:Nat->Lb}{w:C3}{m:Vm}(B:MW G τ w m){c d:Fr}{r:List Fr}(l:m.cs=c::d::r)(n:Int)(t:eF n)(A:m.v.length<=2000000000):
 Cy 117 #[(G.b,0),(n:Int)] w (gI G w ⟨m.s,m.v++[n],d::r⟩ (.tuple #[])):=by
 obtain⟨vi,vv,pa,vo,f⟩:=B;have p:=f.frs;rw[l]at p;obtain⟨a,pa',_,mp,_,tm,_,rfl,i,g⟩:=p;obtain⟨z,_,_,_,q4,_,_,rfl,C,D⟩:=id g;obtain⟨⟨_,_,_,_,_,_,_,_,_,_⟩,_⟩:=zJ f.box;obtain⟨⟨_,_,_,_,_⟩,_⟩:=zT i.box;have F:=f.lt;have E:=zB i.box;have j:=U (f.wt (m':=⟨m.s,m.v,d::r⟩) 4 (.pointer (some ⟨z,0,none⟩)) (D0 f.box _) f.inp f.val f.o g rfl f.nv f.ni f.no f.lim);have y:=U t;clear f i l g C D t;go_enter func117,ntmps117
 go_wp2_with (first
  | (go_at_call 97;(refine(yb (m:=⟨m.s,m.v,d::r⟩) ⟨_,_,_,_,j.o.1⟩ n y.o A).mono ?_);rintro e _ ⟨rfl,q,k⟩
     have x:=U q;have u:=U k
     clear q k))
 go_end0
 exact⟨rfl,x.o,j.o.2.trans u.o⟩
theorem AW{w:C3}{mp k:Nat}{f:C2->C4}(a:eI w mp k (.pointer none) f)(b:k<=2000000000)(td:C2)(l:td.size<=maxLen)(n:Int):
 Cy 92 #[.map (some mp),td,(n:Int)] w fun e w'=>e=.returned (.tuple #[])/\eI w' mp (k+1) (.pointer none) (OM f td (.pointer (some ⟨w.heap.size,0,none⟩)))/\w'.heap[w.heap.size]?=some (.cells #[(n:Int)] 3)/\d1 (fun k=>k=mp) w w'/\w.heap.size<w'.heap.size:=by
 have i:=U (a.wd (w':=w.alloc (.cells #[(n:Int)] 3)) (D3 w _ mp a.lt));have p:=a.lt;clear a;go_enter func92,ntmps92
 go_wp2_with (at_mapUpdate;refine gH rfl _ _ _ 163 rfl 177 underlying163 rfl i.o Vw td rfl l _ rfl ?_
              intro _ d g;have j:=U d;have c:=U g
              clear d g)
 go_end0
 have q:=zA w (.cells #[(n:Int)] 3);refine⟨rfl,j.o,?_,?_,by have:=c.o.size;omega⟩
 .exact(c.o.block _ O (by intro e;injection e with e;omega)).trans (Dq w _)
 .exact(d1.alloc (fun k=>k=mp) w _).trans (d1.grown (X:=fun k=>k=mp) c.o fun k b=>by injection b with b;exact b.symm) fun _ _ m=>m
end Go.Proofs.YthcmenajdcbnnaaGreatDoor
namespace Go.Proofs.YthcmenajdcbnnaaGreatDoor
open Go.RowKit Tryz
theorem s6{p:Pr}{ft k a:Int}{td:C2}{tc:List Ex}{tg th:List St}{v:List Pa}{frm n:Nat}{ti:Bool}(b:(yn p ft (.mk k a td tc tg th) v frm ti n).1=0):
 qy p ft k a td tc v frm ti=0/\(∃n1,(zW p ft tg (jE k a td v) (jE k a td v).length (ti || decide (k=5)) n1).1=0)/\∃n2,(zW p ft th (jE k a td v) (jE k a td v).length ti n2).1=0:=by
 rw[yn]at b;by_cases c:qy p ft k a td tc v frm ti=0
 .rw[Dl Xe]at b
  by_cases d:(zW p ft tg (jE k a td v) (jE k a td v).length (ti || decide (k=5)) (n+1)).1=0
  .rw[Dl Xi]at b
   exact⟨c,⟨_,d⟩,_,b⟩
  .rw[Dm d]at b;exact absurd b d
 .rw[Dm c]at b;exact absurd b c
theorem s9{p:Pr}{ft k b:Int}{td:C2}{tc:List Ex}{v:List Pa}{frm:Nat}{ti:Bool}(a:qy p ft k b td tc v frm ti=0)(_:k=6\/k=7):ti=true:=by
 unfold qy at a;rw[Dl O,Dl O,Dl O,Dl O,Dl O,Dl O,Dl O]at a;cases ti with
 |true=>rfl
 |false=>exact absurd a Up
def ja(l b e:Bool):eD uK->Prop
 |.ok h _=>(h.1=0\/h.1=1\/h.1=2\/h.1=3)/\(l=false->h.1≠1/\h.1≠2)/\(b=false->h.1≠1)/\(e=true->h.1≠0)
 |.fin _=>True
theorem ja.bind{α:Type}{l b e:Bool}{x:eD α}{f:α->RS->eD uK}(h:∀a t,x=.ok a t->ja l b e (f a t)):ja l b e (x.bind f):=by
 cases x with
 |fin t=>trivial
 |ok a t=>exact h a t rfl
theorem ja.ite{l b e:Bool}{c:Prop}[Decidable c]{x d:eD uK}(f:c->ja l b e x)(g:¬c->ja l b e d):ja l b e (if c then x else d):=by
 by_cases a:c
 .rw[Dm a];exact f a
 .rw[Dl a];exact g a
theorem ja.zero{l b:Bool}{n:Int}{vs:d2}{t:RS}:ja l b false (.ok (0,n,vs) t):=⟨.inl rfl,fun _=>⟨by show(0 :Int)≠1;decide,by show(0 :Int)≠2;decide⟩,fun _=>by show(0 :Int)≠1;decide,fun h=>Kg⟩
theorem ja.three{l b e:Bool}{n:Int}{vs:d2}{t:RS}:ja l b e (.ok (3,n,vs) t):=⟨.inr (.inr (.inr rfl)),fun _=>⟨by show(3 :Int)≠1;decide,by show(3 :Int)≠2;decide⟩,fun _=>by show(3 :Int)≠1;decide,fun _=>by show(3 :Int)≠0;decide⟩
theorem ja.df{l b e f g:Bool}{x:eD uK}(c:ja l b e x)(i:f=false->b=false)(j:g=true->e=true):ja l f g x:=by
 cases x with
 |fin t=>trivial
 |ok a t=>exact⟨c.1,c.2.1,fun d=>c.2.2.1 (i d),fun d=>c.2.2.2 (j d)⟩
theorem mP{p:Pr}{ft:Int}{f:d2->St->RS->eD uK}{ti:Bool}(i:∀(st:St) (vs:d2) (s:RS) (v:List Pa) (frm n m:Nat),fG st m=true->(yn p ft st v frm ti n).1=0->ja ti (l0 st) (l1 st) (f vs st s)):
 ∀(l:List St) (vs:d2) (s:RS) (v:List Pa) (frm n m:Nat),d3 l m=true->(zW p ft l v frm ti n).1=0->ja ti (jD l) (d9 l) (kw f vs l s)
 |[],vs,s,v,frm,n,m,_,_=>ja.zero
 | st::r,vs,s,v,frm,n,m,hok,hc=>by
   rw[ji,Dv]at hok;obtain⟨j,n1,k⟩:=uU hc;rw[kw,jD,d9];have b:=i st vs s v frm n m hok.1 j;refine ja.bind fun a t e=>?_
   rw[e]at b;refine ja.ite (fun d=>?_) fun d=>?_
   .refine(mP i r a.2.2 t (B5 st v) frm n1 m hok.2 k).df (fun g=>(Bool.or_eq_false_iff.1 g).2) fun o=>?_
    rcases Bool.or_eq_true_iff.1 o with c|c
    .exact absurd d (b.2.2.2 c)
    .exact c
   .exact⟨b.1,b.2.1,fun g=>b.2.2.1 (Bool.or_eq_false_iff.1 g).1,fun _=>d⟩
theorem tA{l b e:Bool}{f:d2->St->RS->eD uK}{vs:d2}{r:List St}{s:RS}(h:ja l b e (kw f vs r s)):ja l b e (j9 f vs r s):=by
 unfold j9;refine ja.bind fun a t e=>?_
 rw[e]at h;exact h
theorem LR{j:d2->RS->eD Int}{B:d2->RS->eD uK}{l f b e:Bool}(p:∀vs s,ja true b (false) (B vs s))(i:e=true->b=false/\∀vs s a t,j vs s=.ok a t->a≠0):∀(k:Nat) (vs:d2) (s:RS),ja l f e (EL j B k vs s)
 |0,_,_=>trivial
 | k+1,vs,s=>by
   rw[EL];refine ja.bind fun a t q=>ja.ite (fun m=>?_) fun m=>ja.bind fun c u r=>ja.ite (fun g=>?_) fun g=>ja.ite (fun n=>?_) fun n=>LR p i k _ u
   .exact(ja.zero (l:=l) (b:=f)).df (fun d=>d) fun d=>absurd m ((i d).2 vs s a t q)
   .refine⟨.inr (.inr (.inr g)),fun _=>⟨?_,?_⟩,fun _=>?_,fun _=>?_⟩ <;> rw[g]<;>decide
   .refine(ja.zero (l:=l) (b:=f)).df (fun d=>d) fun d=>?_
    have o:=p vs t;rw[r]at o;exact absurd n (o.2.2.1 (i d).1)
theorem TO{p:Pr}{g:Nat}{vs:d2}{tc:List Ex}(c:i9 tc=true){s t:RS}{a:Int}(b:uL p g vs (tc.getD 0 jj) s=.ok a t):a≠0:=by
 cases tc with
 |nil=>cases c
 |cons x r=>
   obtain⟨k,op,n,td,l⟩:=x;unfold i9 at c;simp only[Dv,decide_eq_true_eq]at c;obtain⟨rfl,rfl⟩:=c;rw[List.getD_cons_zero]at b;cases g with
   |zero=>rw[uL]at b;cases b
   |succ g=>
     by_cases d:0<s.fuel
     .rw[S7 p g vs 2 op 1 td l d O]at b
      cases h2:j0 (uL p g vs) l (jJ s).st with
      |fin w=>rw[h2]at b;cases b
      |ok q w=>
        rw[h2]at b;have b:qX p (zar p g) vs 2 op 1 td q w=eD.ok a t:=b;rw[lA _ _ _ _ _ _ _ _ (.inr rfl)]at b;injection b with b _;rw[<-b];decide
     .rw[OL p g vs _ O]at b;cases b
theorem CZ(p:Pr)(ft:Int):∀(g:Nat) (st:St) (vs:d2) (s:RS) (v:List Pa) (frm:Nat) (ti:Bool) (n m:Nat),fG st m=true->(yn p ft st v frm ti n).1=0->ja ti (l0 st) (l1 st) (kM p g vs st s)
 |0,st,_,_,_,_,_,_,_,_,_=>by rw[kM];trivial
 | g+1,.mk k ty td tc tg th,vs,s,v,frm,ti,n,m,hok,hc=>by
   obtain⟨B,⟨n1,e⟩,n2,E⟩:=s6 hc;rw[jW]at hok;simp only[Dv,decide_eq_true_eq]at hok;have F:=CK hok.1.1.1.2
   have r:∀(ti:Bool) (l:List St) (vs:d2) (s:RS) (v:List Pa) (frm n:Nat),d3 l (m-1)=true->(zW p ft l v frm ti n).1=0->ja ti (jD l) (d9 l) (j9 (kM p g) vs l s):=
    fun ti l vs s v frm n f i=>tA (mP (fun st vs s v frm n m f i=>CZ p ft g st vs s v frm ti n m f i) l vs s v frm n (m-1) f i)
   rw[kM,l0,l1];refine ja.bind fun _ t _=>ja.ite (fun o=>?_) fun o=>ja.ite (fun z=>?_) fun z=>ja.ite (fun A=>?_) fun A=>ja.bind fun a C _=>?_
   .subst o
    rw[show(ti || decide ((5 :Int)=5))=true by simp]at e;refine LR (b:=jD tg) (fun vs s=>(r true tg vs s _ _ _ hok.1.2 e).df (fun c=>c) fun c=>Kf) (fun u=>?_) _ vs t;simp at u;exact⟨u.2,fun vs s a t D=>TO u.1 D⟩
   .subst z
    have y:=s9 B (.inl rfl);subst y;exact⟨.inr (.inl rfl),fun c=>Kf,fun c=>Kd,fun c=>Kd⟩
   .subst A
    have y:=s9 B (.inr rfl);subst y;exact⟨.inr (.inr (.inl rfl)),fun c=>Kf,fun c=>(by show(2 :Int)≠1;decide),fun c=>Kd⟩
   by_cases q:k=8
   .subst q
    rw[Dl Up,Dl Up,Dl Up,Dl Up,Dm rfl];exact ja.three
   by_cases j:k=4
   .subst j
    rw[Dl Up,Dl Up,Dl Up,Dm rfl];rw[show(ti || decide ((4 :Int)=5))=ti by simp]at e;refine ja.ite (fun _=>(r ti tg vs C _ _ _ hok.1.2 e).df (fun c=>?_) fun c=>?_) fun _=>(r ti th vs C _ _ _ hok.2 E).df (fun c=>?_) fun c=>?_
    .simp at c;exact c.1
    .simp at c;exact c.1
    .simp at c;exact c.2
    .simp at c;exact c.2
   have d:∀{n:Int}{vs:d2}{t:RS},ja ti (decide (k=6) || decide (k=4)&&(jD tg || jD th)) (decide (k=8) || decide (k=4)&&(d9 tg&&d9 th) || decide (k=5)&&(i9 tc&&!jD tg)) (.ok (0,n,vs) t):=fun {n vs t}=>ja.zero.df (fun c=>c) fun c=>by simp[j,o,q]at c
   refine ja.ite (fun _=>d) fun _=>ja.ite (fun _=>d) fun _=>ja.ite (fun _=>ja.bind fun n w _=>ja.bind fun _ x _=>d) fun _=>ja.ite (fun c=>absurd c j) fun _=>ja.ite (fun c=>absurd c q) fun _=>ja.ite (fun _=>d) fun _=>d
theorem JL{p:Pr}{f:Fu}(l:d3 f.body 100=true)(j:(zW p f.type f.body f.params f.params.length false 0).1=0)(k:d9 f.body=true){g:Nat}{vs:d2}{s t:RS}{b:uK}(e:j9 (kM p g) vs f.body s=.ok b t):b.1=3:=by
 have a:=tA (mP (fun st vs s v frm n m a c=>CZ p f.type g st vs s v frm false n m a c) f.body vs s f.params f.params.length 0 100 l j);rw[e]at a;obtain⟨c,d,_,i⟩:=a;have o:=d rfl;have q:=i k;omega
