import Derived.Test.YthcmenajdcbnnaaGreatDoorAnParVals
set_option linter.unusedSimpArgs false
set_option linter.unusedVariables false
set_option maxRecDepth 100000
set_option maxHeartbeats 99000000
namespace Go.Proofs.YthcmenajdcbnnaaGreatDoor
open Go.RowKit Tryz
theorem Om{p:Prop}(h:p:=by
 obtain⟨a,d,rfl,_⟩:=ha.form;obtain⟨b,e,rfl,_⟩:=hf.form;obtain⟨q,rfl⟩:=(hS.fin (iD.nil _ _)).form;have g:=U ha;have i:=U hf;have l:=U hS;have j:=U hp;have r:=U (fun k=>zi (B:=B) hB (qW a p.wa.length d b p.funcs.length e) (yy k op n s A m c));have t:=U (fun k=>zi (B:=w.heap.size) Zr (qW a p.wa.length d b p.funcs.length e) (yy k op n s A m c));have o:=U (fun k=>xX w (qW a p.wa.length d b p.funcs.length e) (yy k op n s A m c));clear ha hf hS hp;go_enter func153,ntmps153;go_wp2_with fail;refine bodyPost_ret (v:=.tuple #[.agg #[(),(1:Int)],(0:Int)]) (by simp[results,results153,go_sem]) rfl ?_
 exact⟨(((Zb.alloc Zr _).alloc Ur _).alloc Uq _),_,rfl,vL _ _,fun k f=>by cases f⟩):p:=h
theorem On{p:Prop}(h:p:=by
 obtain⟨j,_,rfl,m,rfl⟩:=hrel;have b:=U m;clear m;by_cases t:j<p.funcs.length
 .obtain⟨x,c⟩:∃e,p.funcs[j]?=some e:=⟨_,Dz t⟩
  obtain⟨g,o,_,_,rfl,_,_,_,_,_,hp,q⟩:=(n.o.below ((D1 B w).alloc hB (qW d p.wa.length k f p.funcs.length l)) Zr).cells c;have i:=U c;have u:g<w.heap.size:=O
  clear c hp q;by_cases a:x.name=s
  .have r:=yC a
   go_wp2_with fail;go_ret;exact⟨qK (by rw[nQ b.o i.o a];rfl),Zb.alloc Zr _⟩
  .have r:=yD a
   go_wp2_with fail;go_roundw
   case rel=>exact⟨j+1,O,by go_num,b.o.succ i.o a,trivial⟩
   case measure=>simp[intOf];omega
 .go_wp2_with fail
  go_ret
  exact⟨qK Hx,Zb.alloc Zr _⟩):p:=h
theorem Oo{p:Prop}(h:p:=by
 obtain⟨j,_,rfl,m,rfl⟩:=hrel;have b:=U m;clear m;by_cases r:j<p.wa.length
 .obtain⟨x,c⟩:∃e,p.wa[j]?=some e:=⟨_,Dz r⟩
  obtain⟨g,o,rfl,_,_,_⟩:=(n.o.below ((D1 B w).alloc hB (qW d p.wa.length k f p.funcs.length l)) Zr).cells c;have i:=U c;have t:g<w.heap.size:=O
  clear c;by_cases a:x.name=s
  .have q:=yC a
   go_wp2_with fail;go_ret;exact⟨qK (by rw[nS b.o i.o a];rfl),Zb.alloc Zr _⟩
  .have q:=yD a
   go_wp2_with fail;go_roundw
   case rel=>exact⟨j+1,O,by go_num,b.o.succ i.o a,trivial⟩
   case measure=>simp[intOf];omega
 .go_wp2_with fail
  go_ret
  exact⟨qK Hx,Zb.alloc Zr _⟩):p:=h
theorem Oq{p:Prop}(h:p:=by
 by_cases c:i=j
 .subst c
  rw[d]at a;injection a with a;exact a▸e
 .exact b i g O a):p:=h
theorem Ot{p:Prop}(h:p:=by
 go_roundw
 case rel=>exact⟨r,g,O,i.o,k.o,trivial⟩
 case measure=>exact m.o):p:=h
variable{n k j C B g:Nat}{p:Pr}{s:C2}{e T:TypeId}{l:List Int}{w w' W:C3}{u v:C4}
abbrev qb:=List (C2×C2)
def yB:qb->C2->Option C2
 |[],_=>none
 | x::r,s=>match yB r s with
   |some t=>some t
   |none=>if x.1=s then some x.2 else none
def o4(l:qb)(s:C2):C2:=(yB l s).getD s
def vN(n:Nat):C2:=⟨(118::Lib.decDigits n).toArray⟩
mutual
def vK(a:qb):Ex->Ex
 |.mk k op n td tc=>.mk k op n (if k=3 then o4 a td else td) (qO a tc)
def qO(a:qb):List Ex->List Ex
 |[]=>[]
 |e::r=>vK a e::qO a r
end
def jV(k:Int)(td:C2)(tj:qb)(n:Nat):qb:=if k=1 then tj++[(td,vN n)]else tj
def kY(k:Int)(n:Nat):Nat:=if k=1 then n+1 else n
def vy:St->qb->Nat->qb
 |.mk k _ td _ _ _,tj,n=>jV k td tj n
mutual
def jc:St->qb->Nat->St×Nat
 |.mk k ty td tc tg th,tj,n=>
   (.mk k ty (if k=1\/k=2 then o4 (jV k td tj n) td else td) (qO tj tc) (zO tg (jV k td tj n) (kY k n)).1 (zO th (jV k td tj n) (zO tg (jV k td tj n) (kY k n)).2).1,
     (zO th (jV k td tj n) (zO tg (jV k td tj n) (kY k n)).2).2)
def zO:List St->qb->Nat->List St×Nat
 |[],_,n=>([],n)
 |s::r,tj,n=>((jc s tj n).1::(zO r (vy s tj n) (jc s tj n).2).1,(zO r (vy s tj n) (jc s tj n).2).2)
end
def eL:List Pa->Nat->qb
 |[],_=>[]
 |x::r,n=>(x.name,vN n)::eL r (n+1)
def d8:List Pa->Nat->List Pa
 |[],_=>[]
 |x::r,n=>⟨vN n,x.type⟩::d8 r (n+1)
def kq(f:Fu):Fu:=⟨f.name,f.type,d8 f.params 0,(zO f.body (eL f.params 0) f.params.length).1⟩
def qJ(p:Pr):Pr:=⟨p.wa,p.funcs.map kq⟩
theorem kN(a:qb):∀l:List Ex,(qO a l).length=l.length
 |[]=>by rw[qO]
 |e::r=>by rw[qO,Dp,Dp,kN a r]
theorem xI:∀(l:List St) (tj:qb) (n:Nat),(zO l tj n).1.length=l.length
 |[],_,_=>Vp
 |s::r,tj,n=>by rw[zO,Dp,Dp,xI r]
theorem kt:∀(l:List Pa) (n:Nat),(d8 l n).length=l.length
 |[],_=>rfl
 |x::r,n=>by rw[d8,Dp,Dp,kt r]
theorem o5:∀(l:List Pa) (n:Nat),(d8 l n).map (·.type)=l.map (·.type)
 |[],_=>rfl
 |x::r,n=>by rw[d8,Yb,Yb,o5 r]
theorem gT:∀(l:List Fu) (s:C2),qN (l.map kq) s=qN l s
 |[],_=>rfl
 |f::r,s=>by rw[Yb,qN,qN,gT r];rfl
theorem gU(p:Pr)(s:C2):jN (qJ p) s=(jN p s).map kq:=by
 unfold jN qJ;dsimp only;rw[gT];cases qN p.funcs s with
 |none=>rfl
 |some k=>simp[Yl]
theorem RQ{m:Nat}(a:vN m=vN n):m=n:=by
 unfold vN at a
 have c:(118::Lib.decDigits m)=(118::Lib.decDigits n):=by
  have:=congrArg (fun b:C2=>b.data.toList) a;simpa using this
 have d:Lib.decDigits m=Lib.decDigits n:=Xe
 have e:kI 0 (Lib.decDigits m)=kI 0 (Lib.decDigits n):=by rw[d]
 rwa [o3,o3]at e
def Al:List Pa->qb->List Pa->Prop
 |[],[],[]=>True
 |x::r,q::rs,y::ys=>q.1=x.name/\y.name=q.2/\y.type=x.type/\Al r rs ys
 |_,_,_=>False
theorem Al.len:∀{a:List Pa}{b:qb}{c:List Pa},Al a b c->b.length=a.length/\c.length=a.length
 |[],[],[],_=>⟨rfl,rfl⟩
 | x::r,q::rs,y::ys,h=>by
   obtain⟨_,_,_,h⟩:=h;have:=h.len;simp only[Dp];omega
theorem Al.snoc:∀{a:List Pa}{b:qb}{c:List Pa},Al a b c->∀(s:C2) (t:Int) (n:C2),Al (a++[⟨s,t⟩]) (b++[(s,n)]) (c++[⟨n,t⟩])
 |[],[],[],_,s,t,n=>⟨rfl,rfl,rfl,trivial⟩
 |x::r,q::rs,y::ys,h,s,t,n=>⟨h.1,h.2.1,h.2.2.1,h.2.2.2.snoc s t n⟩
theorem Al.none:∀{a:List Pa}{b:qb}{c:List Pa},Al a b c->∀{s:C2},zX a s=none->yB b s=none
 |[],[],[],_,s,_=>rfl
 | x::r,q::rs,y::ys,h,s,hv=>by
   obtain⟨d,_,_,f⟩:=h;rw[zX]at hv;cases hr:zX r s with
   |some t=>rw[hr]at hv;cases hv
   |none=>
     rw[hr]at hv;rw[yB,f.none hr,d];by_cases e:x.name=s
     .rw[Dm e]at hv;cases hv
     .exact Dl e
theorem Al.mem:∀{a:List Pa}{b:qb}{c:List Pa},Al a b c->∀{s:C2}{t:Int},zX c s=some t->s∈b.map (·.2)
 |[],[],[],_,s,t,hv=>by rw[zX]at hv;cases hv
 | x::r,q::rs,y::ys,h,s,t,hv=>by
   obtain⟨_,d,_,f⟩:=h;rw[zX]at hv;rw[Yb,Cg];cases hr:zX ys s with
   |some u=>exact .inr (f.mem hr)
   |none=>
     rw[hr]at hv;by_cases e:y.name=s
     .exact .inl (by rw[<-e,d])
     .rw[show(if y.name=s then some y.type else Option.none)=Option.none from Dl e]at hv;cases hv
theorem Al.find:∀{a:List Pa}{b:qb}{c:List Pa},Al a b c->(b.map (·.2)).Nodup->∀{s:C2}{t:Int},zX a s=some t->∃f,yB b s=some f/\zX c f=some t
 |[],[],[],_,_,s,t,d=>by rw[zX]at d;cases d
 | x::r,q::rs,y::ys,h,hd,s,t,d=>by
   obtain⟨i,j,k,g⟩:=h;rw[Yb,List.nodup_cons]at hd;rw[zX]at d;cases hr:zX r s with
   |some u=>
     rw[hr]at d;injection d with d;subst d;obtain⟨f,l,m⟩:=g.find hd.2 hr;exact⟨f,by rw[yB,l],by rw[zX,m]⟩
   |none=>
     rw[hr]at d;by_cases e:x.name=s
     .rw[show(if x.name=s then some x.type else Option.none)=some x.type from Dm e]at d
      injection d with d;refine⟨q.2,?_,?_⟩
      .rw[yB,g.none hr,i]
       exact Dm e
      .rw[zX]
       cases hy:zX ys q.2 with
       |some u=>exact absurd (g.mem hy) hd.1
       |none=>rw[<-d,<-k];exact Dm j
     .rw[show(if x.name=s then some x.type else Option.none)=Option.none from Dl e]at d;cases d
theorem nP{tf:List Pa}:∀{l:List Ex}{x:Int},zq p tf l=.inl x->x≠0
 |[],x,a=>by rw[zq]at a;cases a
 | e::r,x,a=>by
   rw[zq]at a;by_cases b:(qF p tf e).2=0
   .rw[Dl Uz]at a
    cases hr:zq p tf r with
    |inl _=>rw[hr]at a;injection a with a;subst a;exact nP hr
    |inr l=>rw[hr]at a;cases a
   .rw[Dm b]at a
    injection a with a;rw[<-a];exact b
theorem gV{l:qb}{t:C2}(h:yB l s=some t):o4 l s=t:=by unfold o4;rw[h];rfl
theorem RR{tf f:List Pa}{d:qb}(i:Al tf d f)(j:(d.map (·.2)).Nodup){k:Int}(a:jp p tf k s=true):jp (qJ p) f k (if k=3 then o4 d s else s)=true:=by
 unfold jp at *;by_cases c:k=3
 .subst c
  rw[Dm rfl]at a ⊢;obtain⟨t,l⟩:=Option.isSome_iff_exists.1 a;obtain⟨_,g,b⟩:=i.find j l;rw[Dm rfl,gV g,b];rfl
 .rw[Dl c]at a ⊢
  rw[Dl c];by_cases b:k=6
  .rw[Dm b]at a ⊢;exact a
  .rw[Dl b]at a ⊢
   by_cases e:k=7
   .rw[Dm e]at a ⊢
    show(qN (p.funcs.map kq) s).isSome=true;rw[gT];exact a
   .rw[Dl e]
theorem NO(p:Pr)(b:qb)(k:Int)(s:C2)(n:Nat):kb (qJ p) k (if k=3 then o4 b s else s) n=kb p k s n:=by
 unfold kb;by_cases a:k=7
 .subst a
  rw[Dm rfl,Dm rfl,Dl Up,gU];cases jN p s with
  |none=>rfl
  |some f=>show decide (n=(d8 f.params 0).length)=_;rw[kt]
 .rw[Dl a,Dl a]
theorem NP{tf i:List Pa}{e:qb}(n:Al tf e i)(o:(e.map (·.2)).Nodup){k:Int}(d:jp p tf k s=true)(op:Int)(l:List Int):j8 (qJ p) i k op (if k=3 then o4 e s else s) l=j8 p tf k op s l:=by
 unfold j8;by_cases a:k=2
 .rw[Dm a,Dm a]
 rw[Dl a,Dl a];by_cases b:k=3
 .subst b
  unfold jp at d;rw[Dm rfl]at d;obtain⟨t,g⟩:=Option.isSome_iff_exists.1 d;obtain⟨_,j,m⟩:=n.find o g;rw[Dm rfl,Dm rfl,Dm rfl,gV j,m,g]
 rw[Dl b,Dl b,Dl b];by_cases c:k=7
 .rw[Dm c,Dm c,gU]
  cases jN p s with
  |none=>rfl
  |some f=>
    show(if l=(d8 f.params 0).map (·.type)then _ else _)=_;rw[o5];rfl
 rw[Dl c,Dl c]
mutual
theorem r5{p:Pr}{tf i:List Pa}{f:qb}(c:Al tf f i)(d:(f.map (·.2)).Nodup):∀e:Ex,(qF p tf e).2=0->qF (qJ p) i (vK f e)=qF p tf e
 | .mk k op n td tc,h=>by
   rw[vK,qF,qF];rw[qF]at h;by_cases a:jp p tf k td=false
   .rw[Dm a]at h;exact absurd h Up
   rw[Dl a]at h ⊢;have g:jp p tf k td=true:=Uy
   rw[Dl (by rw[RR c d g];decide),NO,kN];by_cases b:kb p k td tc.length=false
   .rw[Dm b]at h;exact absurd h Up
   rw[Dl b]at h ⊢;rw[Dl b];cases ha:zq p tf tc with
   |inl x=>rw[ha]at h;exact absurd h (nP ha)
   |inr l=>rw[z7 c d tc l ha];exact NP c d g op l
theorem z7{p:Pr}{tf g:List Pa}{c:qb}(d:Al tf c g)(f:(c.map (·.2)).Nodup):∀(l:List Ex) (b:List Int),zq p tf l=.inr b->zq (qJ p) g (qO c l)=.inr b
 |[],b,h=>by rw[qO,zq];rwa [zq]at h
 | e::r,b,h=>by
   rw[zq]at h;by_cases a:(qF p tf e).2=0
   .rw[Dl Uy]at h
    rw[qO,zq,r5 d f e a,Dl Uy];cases hr:zq p tf r with
    |inl x=>rw[hr]at h;cases h
    |inr l=>rw[hr]at h;rw[z7 d f r l hr];exact h
   .rw[Dm a]at h;cases h
end
theorem yX{tf d:List Pa}{c:qb}(f:Al tf c d)(g:(c.map (·.2)).Nodup){e:Ex}{t:Int}(a:qu p tf e t=0):qu (qJ p) d (vK c e) t=0:=by
 unfold qu at *;by_cases b:(qF p tf e).2=0
 .rw[r5 f g e b];exact a
 .rw[Dl b]at a;exact absurd a b
theorem kO(a:qb):∀(l:List Ex) (i:Nat),(qO a l).getD i jj=vK a (l.getD i jj)
 |[],i=>by simp[qO,jj,vK]
 |e::r,0=>by rw[qO];rfl
 |e::r,i+1=>by rw[qO];exact kO a r i
theorem z8:∀{l:List Fu},(∀(j:Nat) f,l[j]?=some f->f.name≠s)->qN l s=none
 |[],_=>rfl
 | f::r,h=>by
   rw[qN,Dl (h 0 f rfl),z8 fun j g a=>h (j+1) g a];rfl
theorem nQ{s:C2}:∀{l:List Fu}{j:Nat}{f:Fu},(∀(i:Nat) g,i<j->l[i]?=some g->g.name≠s)->l[j]?=some f->f.name=s->qN l s=some j
 |[],_,_,_,hj,_=>by simp at hj
 | g::r,0,f,_,hj,e=>by
   simp at hj;subst hj;rw[qN,Dm e]
 | g::r,j+1,f,h,hj,e=>by
   rw[qN,Dl (h 0 g O rfl),nQ (l:=r) (j:=j) (fun i x _ a=>h (i+1) x O a) (by simpa using hj) e];rfl
theorem nR:∀{l:List Ar},(∀(j:Nat) f,l[j]?=some f->f.name≠s)->ze l s=none
 |[],_=>rfl
 | f::r,h=>by
   rw[ze,Dl (h 0 f rfl),nR fun j g a=>h (j+1) g a];rfl
theorem nS{s:C2}:∀{l:List Ar}{j:Nat}{f:Ar},(∀(i:Nat) g,i<j->l[i]?=some g->g.name≠s)->l[j]?=some f->f.name=s->ze l s=some j
 |[],_,_,_,hj,_=>by simp at hj
 | g::r,0,f,_,hj,e=>by
   simp at hj;subst hj;rw[ze,Dm e]
 | g::r,j+1,f,h,hj,e=>by
   rw[ze,Dl (h 0 g O rfl),nS (l:=r) (j:=j) (fun i x _ a=>h (i+1) x O a) (by simpa using hj) e];rfl
theorem ye:∀{l:List Fu}{k:Nat},qN l s=some k->∃f,l[k]?=some f/\f.name=s/\∀(i:Nat) g,i<k->l[i]?=some g->g.name≠s
 |[],_,a=>Xb
 | f::r,k,a=>by
   rw[qN]at a;split at a
   .rename_i e
    injection a with a;subst a;exact⟨f,rfl,e,fun i g c=>absurd c O⟩
   .rename_i e
    cases hr:qN r s with
    |none=>rw[hr]at a;cases a
    |some j=>
      rw[hr]at a;obtain rfl:j+1=k:=Uy
      obtain⟨g,d,m,n⟩:=ye hr;refine⟨g,Xi,m,fun i x c b=>?_⟩;cases i with
      |zero=>simp at b;subst b;exact e
      |succ i=>exact n i x O Uz
theorem yC{a b:C2}(h:a=b):(a.toList == b.toList)=true:=by simp[h]
theorem yD{a b:C2}(_:a≠b):(a.toList == b.toList)=false:=by
 rw[beq_eq_false_iff_ne];intro e;rw[Yh,Yh]at e;cases a;cases b
 simp_all
def RT(l:List Fu)(s:C2)(j:Nat):Prop:=∀(i:Nat) g,i<j->l[i]?=some g->g.name≠s
def RU(l:List Ar)(s:C2)(j:Nat):Prop:=∀(i:Nat) g,i<j->l[i]?=some g->g.name≠s
theorem RT.zero(l:List Fu)(s:C2):RT l s 0:=fun i g a=>absurd a O
theorem RU.zero(l:List Ar)(s:C2):RU l s 0:=fun i g a=>absurd a O
theorem RT.succ{l:List Fu}{f:Fu}(b:RT l s j)(d:l[j]?=some f)(e:f.name≠s):RT l s (j+1):=fun i g _ a=>by
 exact Oq
theorem RU.succ{l:List Ar}{f:Ar}(b:RU l s j)(d:l[j]?=some f)(e:f.name≠s):RU l s (j+1):=fun i g _ a=>by
 exact Oq
theorem RT.all{l:List Fu}(b:RT l s j)(_:l.length<=j):qN l s=none:=z8 fun i g a=>b i g Xl a
theorem RU.all{l:List Ar}(b:RU l s j)(_:l.length<=j):ze l s=none:=nR fun i g a=>b i g Xl a
abbrev qW(a:Option Addr)(e c:Nat)(b:Option Addr)(f d:Nat):Obj:=.cells #[(a,e,c),(b,f,d)] 27
theorem NQ(B:Nat)(p:Pr)(s:C2)(v0 v1:C4)(w:C3)(hB:B<=w.heap.size)(ha:eZ B w v0 p.wa)(hf:e0 B w v1 p.funcs):
 Cy 87 #[.agg #[v0,v1],s] w (Cv ((ko (qN p.funcs s)):Int) w):=by
 obtain⟨d,k,rfl,_⟩:=ha.form;obtain⟨f,l,rfl,_⟩:=hf.form;have n:=U hf;clear ha hf;go_enter func87,ntmps87;go_wp2_with fail
 go_loopw [9] (fun iv wr=>∃j:Nat,j<=p.funcs.length/\iv=.int .i64 j/\RT p.funcs s j/\wr=w.alloc (qW d p.wa.length k f p.funcs.length l)) (fun iv _=>p.funcs.length-(intOf iv).toNat)
 case atStart=>exact⟨0,Dw _,rfl,RT.zero _ _,rfl⟩
 case round=>
  exact On
theorem NR(B:Nat)(p:Pr)(s:C2)(v0 v1:C4)(w:C3)(hB:B<=w.heap.size)(ha:eZ B w v0 p.wa)(hf:e0 B w v1 p.funcs):
 Cy 135 #[.agg #[v0,v1],s] w (Cv ((ko (ze p.wa s)):Int) w):=by
 obtain⟨d,k,rfl,_⟩:=ha.form;obtain⟨f,l,rfl,_⟩:=hf.form;have n:=U ha;clear ha hf;go_enter func135,ntmps135;go_wp2_with fail
 go_loopw [9] (fun iv wr=>∃j:Nat,j<=p.wa.length/\iv=.int .i64 j/\RU p.wa s j/\wr=w.alloc (qW d p.wa.length k f p.funcs.length l)) (fun iv _=>p.wa.length-(intOf iv).toNat)
 case atStart=>exact⟨0,Dw _,rfl,RU.zero _ _,rfl⟩
 case round=>
  exact Oo
theorem IL(B:Nat)(p:Pr)(s:C2)(v0 v1:C4)(w:C3)(hB:B<=w.heap.size)(ha:eZ B w v0 p.wa)(hf:e0 B w v1 p.funcs):
 Cy 36 #[.agg #[v0,v1],s] w (Cv ((ko (qN p.funcs s)):Int) w):=by
 obtain⟨d,k,rfl,_⟩:=ha.form;obtain⟨f,l,rfl,_⟩:=hf.form;have n:=U hf;clear ha hf;go_enter func36,ntmps36;go_wp2_with fail
 go_loopw [5] (fun iv wr=>∃j:Nat,j<=p.funcs.length/\iv=.int .i64 j/\RT p.funcs s j/\wr=w.alloc (qW d p.wa.length k f p.funcs.length l)) (fun iv _=>p.funcs.length-(intOf iv).toNat)
 case atStart=>exact⟨0,Dw _,rfl,RT.zero _ _,rfl⟩
 case round=>
  exact On
theorem IM(B:Nat)(p:Pr)(s:C2)(v0 v1:C4)(w:C3)(hB:B<=w.heap.size)(ha:eZ B w v0 p.wa)(hf:e0 B w v1 p.funcs):
 Cy 99 #[.agg #[v0,v1],s] w (Cv ((ko (ze p.wa s)):Int) w):=by
 obtain⟨d,k,rfl,_⟩:=ha.form;obtain⟨f,l,rfl,_⟩:=hf.form;have n:=U ha;clear ha hf;go_enter func99,ntmps99;go_wp2_with fail
 go_loopw [5] (fun iv wr=>∃j:Nat,j<=p.wa.length/\iv=.int .i64 j/\RU p.wa s j/\wr=w.alloc (qW d p.wa.length k f p.funcs.length l)) (fun iv _=>p.wa.length-(intOf iv).toNat)
 case atStart=>exact⟨0,Dw _,rfl,RU.zero _ _,rfl⟩
 case round=>
  exact Oo
theorem l5(op:Int)(w:C3):Cy 162 #[(op:Int)] w (Cw (.tuple #[(jZ op:Int),(vx op:Int)]) w):=by
 by_cases c:op=18\/op=19\/op=22\/op=16\/op=17\/op=12\/op=13\/op=14\/op=15
 .rcases c with rfl|rfl|rfl|rfl|rfl|rfl|rfl|rfl|rfl
  all_goals
   go_enter func162,ntmps162;go_wp2_with fail
   go_ret2
   exact⟨rfl,rfl⟩
 .have n1:(op == 18)=false:=by simp;omega
  have n2:(op == 19)=false:=Uq
  have d:(op == 22)=false:=Uq
  have e:(op == 16)=false:=Uq
  have f:(op == 17)=false:=Uq
  have g:(op == 12)=false:=Uq
  have i:(op == 13)=false:=Uq
  have j:(op == 14)=false:=Uq
  have k:(op == 15)=false:=Uq
  have a:jZ op=1:=by unfold jZ;rw[Dl O,Dl O]
  have b:vx op=1:=by unfold vx;rw[Dl O,Dl O,Dl O]
  rw[a,b];clear c a b;go_enter func162,ntmps162;go_wp2_with fail
  go_ret2
  exact⟨rfl,rfl⟩
theorem EO(op:Int)(w:C3):Cy 145 #[(op:Int)] w (Cw (.tuple #[(jZ op:Int),(vx op:Int)]) w):=by
 go_enter func145,ntmps145;go_wp2_with fail
 all_goals go_ret2
 all_goals refine⟨?_,rfl⟩
 all_goals go_light
 all_goals(unfold jZ vx;simp_all;try omega)
def WZ(l:List Pa)(s:C2)(k:Nat):Prop:=∀(i:Nat) x,k<=i->l[i]?=some x->x.name≠s
theorem nT{s:C2}:∀{l:List Pa},(∀(i:Nat) x,l[i]?=some x->x.name≠s)->zX l s=none
 |[],_=>rfl
 | y::r,h=>by
   rw[zX,nT (l:=r) fun i x a=>h (i+1) x Uy];exact Dl (h 0 y rfl)
theorem z9{s:C2}:∀{l:List Pa}{k:Nat}{x:Pa},WZ l s (k+1)->l[k]?=some x->x.name=s->zX l s=some x.type
 |[],_,_,_,hk,_=>by simp at hk
 | y::r,0,x,h,hk,e=>by
   simp at hk;subst hk;rw[zX,nT (l:=r) fun i z a=>h (i+1) z O Uy];exact Dm e
 | y::r,k+1,x,h,hk,e=>by
   rw[zX,z9 (l:=r) (k:=k) (fun i z _ a=>h (i+1) z O Uy) (by simpa using hk) e]
theorem WZ.start(l:List Pa)(s:C2):WZ l s l.length:=fun i x _ a=>Xl
theorem WZ.step{l:List Pa}{x:Pa}(b:WZ l s (k+1))(d:l[k]?=some x)(e:x.name≠s):WZ l s k:=fun i z _ a=>by
 by_cases c:i=k
 .subst c
  rw[d]at a;injection a with a;exact a▸e
 .exact b i z O a
theorem WZ.none{l:List Pa}(a:WZ l s 0):zX l s=Option.none:=nT fun i x b=>a i x (Dw _) b
theorem NS(B:Nat)(l:List Pa)(s:C2)(v:C4)(w:C3)(hB:B<=w.heap.size)(d:e5 B w v l):
 Cy 72 #[v,s] w (Cw (.tuple #[(((zX l s).getD 0):Int),.bool (zX l s).isSome]) w):=by
 obtain⟨A,c,rfl,_⟩:=d.form;have m:=U d;clear d;go_enter func72,ntmps72;go_wp2_with fail
 go_loopw [6] (fun iv wr=>∃k:Nat,k<=l.length/\iv=.int .i64 ((k:Int)-1)/\WZ l s k/\wr=w) (fun iv _=>(intOf iv+1).toNat)
 case atStart=>exact⟨l.length,Dy _,by go_num,WZ.start _ _,rfl⟩
 case round=>
  obtain⟨k,_,rfl,j,rfl⟩:=hrel;have b:=U j;clear j;rcases k with _|k
  .go_wp2_with fail
   go_ret2
   exact⟨by rw[b.o.none];rfl,rfl⟩
  .have e:((k+1 :Nat):Int)-1=(k:Int):=by omega
   rw[e];obtain⟨x,f⟩:∃e,l[k]?=some e:=⟨_,Dz O⟩
   obtain⟨g,o,rfl,_,_,_⟩:=m.o.cells f;have i:=U f;have p:g<wr.heap.size:=O
   clear f e;by_cases a:x.name=s
   .have n:=yC a
    go_wp2_with fail
    go_ret2
    exact⟨by rw[z9 b.o i.o a];rfl,rfl⟩
   .have n:=yD a
    go_wp2_with fail;go_roundw
    case rel=>exact⟨k,O,by go_num,b.o.step i.o a,trivial⟩
    case measure=>simp[intOf]
def xd:List Pa->C2->Option Int
 |[],_=>none
 |x::r,s=>if x.name=s then some x.type else xd r s
theorem r6(s:C2):∀a b:List Pa,xd (a++b) s=match xd a s with|some t=>some t|none=>xd b s
 |[],b=>rfl
 | x::r,b=>by
   rw[Ys,xd,xd,r6 s r b];split<;>rfl
theorem yY(s:C2):∀l:List Pa,zX l s=xd l.reverse s
 |[]=>rfl
 | x::r=>by
   rw[zX,yY s r,List.reverse_cons,r6];rfl
def gW(w:C3)(C:Nat)(u:C4):Nat->C4->List Pa->Prop
 |B,v,[]=>v=u/\C<=B
 |B,v,x::r=>∃(g:Nat) (t:C4),v=.pointer (some ⟨g,0,none⟩)/\C<=g/\g<B/\w.heap[g]?=some (.cells #[.string x.name,.int .i64 x.type,t] 185 (0,0))/\gW w C u g t r
theorem gW.le:∀{l:List Pa}{B:Nat}{v:C4},gW w C u B v l->C<=B
 |[],_,_,h=>h.2
 |_::_,_,_,⟨_,_,_,h1,h2,_⟩=>O
theorem gW.up:∀{l:List Pa}{B a:Nat}{v:C4},gW w C u B v l->B<=a->gW w C u a v l
 |[],_,_,_,h,hB=>⟨h.1,by have:=h.2;omega⟩
 |_::_,_,_,_,⟨g,t,h0,h1,h2,h3⟩,hB=>⟨g,t,h0,h1,O,h3⟩
theorem gW.keep:∀{l:List Pa}{B:Nat}{v:C4},gW w C u B v l->(∀g,C<=g->g<B->w'.heap[g]?=w.heap[g]?)->gW w' C u B v l
 |[],_,_,h,_=>h
 |_::r,B,_,⟨g,t,h0,h1,h2,h3,h6⟩,hc=>⟨g,t,h0,h1,h2,(hc g h1 h2).trans h3,h6.keep fun k a _=>hc k a O⟩
theorem gW.below{l:List Pa}(a:gW w C u B v l)(b:Below B w w'):gW w' C u B v l:=a.keep fun g _ c=>b.block g c
theorem gW.join{D:Nat}{t:C4}:∀{l:List Pa}{B:Nat}{v:C4}{m:List Pa},gW w D t B v l->gW w C u D t m->gW w C u B v (l++m)
 |[],_,_,_,h,g=>by obtain⟨rfl,a⟩:=h;exact g.up a
 |_::r,_,_,_,⟨k,x,h0,h1,a,h3,h6⟩,g=>⟨k,x,h0,by have:=g.le;omega,a,h3,h6.join g⟩
theorem gW.none(w:C3)(C B:Nat)(u:C4)(h:C<=B):gW w C u B u []:=⟨rfl,h⟩
def iD(w:C3)(C:Nat)(u:C4):Prop:=u=.pointer none\/∃g cs,u=.pointer (some ⟨g,0,none⟩)/\g<C/\w.heap[g]?=some (.cells cs 185 (0,0))
def RV:C4->Nat
 |.pointer (some a)=>a.block+1
 |_=>0
theorem gW.lower(c:iD w C u){t:C4}{r:List Pa}(a:gW w C u g t r):RV t<g+1:=by
 cases r with
 |nil=>
   obtain⟨rfl,b⟩:=a;rcases c with rfl|⟨k,cs,rfl,_,_⟩
   .simp[RV]
   .simp[RV];omega
 |cons x r=>
   obtain⟨k,_,rfl,_,b,_⟩:=a;simp[RV];omega
theorem gW.fin(e:iD w C u){l:List Pa}(a:gW w C u B v l):iD w B v:=by
 cases l with
 |nil=>
   obtain⟨rfl,b⟩:=a;rcases e with rfl|⟨k,cs,rfl,_,d⟩
   .exact .inl rfl
   .exact .inr ⟨k,cs,rfl,O,d⟩
 |cons x r=>
   obtain⟨k,_,rfl,_,b,c,_⟩:=a;exact .inr ⟨k,_,rfl,b,c⟩
theorem iD.keep(a:iD w C u)(d:∀g,g<C->(∃cs,w.heap[g]?=some (.cells cs 185 (0,0)))->w'.heap[g]?=w.heap[g]?):iD w' C u:=by
 rcases a with a|⟨k,cs,a,b,c⟩
 .exact .inl a
 .exact .inr ⟨k,cs,a,b,(d k b ⟨cs,c⟩).trans c⟩
theorem iD.nil(w:C3)(C:Nat):iD w C (.pointer none):=.inl rfl
theorem l6{P:Program}(w:C3){c e:TypeId}{j:TypeInfo}{a b:Addr}{f g:Array C4}{o p:TypeId}(hp:P.underlying c=some (.pointer e))(n:P.info? e=some j)(m:j.size≠0)
 (l:a≠b) (ha:w.heap[a.block]?=some (.cells f o (0,0))) (k:w.heap[b.block]?=some (.cells g p (0,0))):
 (binOp .neq c (.pointer (some a)) (.pointer (some b))).run P w=.ok (.bool true) w:=by
 have i:∀d:Nat,(Op.equalIn (d+1) c (.pointer (some a)) (.pointer (some b))).run P w=.ok false w:=fun d=>by
  simp[Op.equalIn,run_underlying hp,sizeOf,typeInfo,n,m,run_sameAddr_other w l ha k]
 simp only[binOp];simp[Op.equal,Op.maxDepth,i 9999]
theorem K6:(Tryz.prog.info? 185).map (fun i=>(i.zero,i.size,i.bytes))=some (some (.agg #[.string ⟨#[]⟩,(0:Int),.pointer none]),3,32):=by kernel_rfl
theorem zcy(w:C3){cs a:Array C4}(f:g≠k)(b:w.heap[g]?=some (.cells cs 185 (0,0)))(c:w.heap[k]?=some (.cells a 185 (0,0))):
 (binOp .neq 155 (.pointer (some ⟨g,0,none⟩)) (.pointer (some ⟨k,0,none⟩))).run Tryz.prog w=.ok (.bool true) w:=by
 obtain⟨_,d,_,i,_⟩:=info_parts K6;exact l6 w underlying155 d (by rw[i];decide) (by intro e;injection e with e;exact f e) b c
theorem zcz(w:C3)(g:Nat):(binOp .neq 155 (.pointer (some ⟨g,0,none⟩)) (.pointer (some ⟨g,0,none⟩))).run Tryz.prog w=.ok (.bool false) w:=by
 obtain⟨_,a,_,_,_⟩:=info_parts K6;exact Lib.run_neq_ptr_same w _ underlying155 a
theorem IN{b c d:C4}{fr:Nat×Nat}(a:w.heap[g]?=some (.cells #[b,c,d] T fr)):w.cell? (g,0)=some b/\w.cell? (g,1)=some c/\w.cell? (g,2)=some d:=
 ⟨(Ds a 0).trans rfl,(Ds a 1).trans rfl,(Ds a 2).trans rfl⟩
def K7(w:C3)(B:Nat)(o:Option Int)(e:Ending):Prop:=match o with
 |some t=>∃g,e=.returned (.pointer (some ⟨g,0,none⟩))/\g<B/\w.cell? ⟨g,1,none⟩=some (.int .i64 t)
 |none=>e=.returned (.pointer none)
theorem xD(w:C3)(C B:Nat)(u v:C4)(l:List Pa)(s:C2)(hB:B<=w.heap.size)(E:iD w C u)(q:gW w C u B v l):
 Cy 110 #[v,u,s] w fun e w'=>K7 w B (xd l s) e/\w=w':=by
 have F:=U q;have c:=U E;clear q E;go_enter func110,ntmps110;go_wp2_with fail
 go_loopw [7] (fun iv wr=>∃r D,D<=B/\gW w C u D iv r/\xd r s=xd l s/\wr=w) (fun iv _=>RV iv)
 case atStart=>exact⟨l,B,Dy _,F.o,rfl,rfl⟩
 case round=>
  obtain⟨r,D,hD,A,hf,rfl⟩:=hrel;have b:=U hf;clear hf;cases r with
  |nil=>
    obtain⟨rfl,_⟩:=A;rcases c.o with rfl|⟨a,cs,rfl,z,d⟩
    .go_wp2_with fail
     go_ret;exact⟨by rw[<-b.o];rfl,rfl⟩
    .have K:=zcz wr a
     go_wp2_with fail;go_ret;exact⟨by rw[<-b.o];rfl,rfl⟩
  |cons x r=>
    obtain⟨g,t,rfl,_,_,j,y⟩:=A;obtain⟨_,I,_⟩:=IN j;have p:=U j;have i:=U y;have J:g<wr.heap.size:=O
    clear y j;by_cases f:x.name=s
    .have G:=yC f
     have hp:K7 wr B (xd l s) (.returned (.pointer (some ⟨g,0,none⟩))):=by
      rw[<-b.o,xd,Dm f];exact⟨g,rfl,O,I⟩
     have n:=U hp;clear hp;rcases c.o with rfl|⟨a,cs,rfl,z,d⟩
     .go_wp2_with fail
      go_ret;exact⟨n.o,rfl⟩
     .have H:=zcy wr (show g≠a by omega) p.o d
      go_wp2_with fail;go_ret;exact⟨n.o,rfl⟩
    .have G:=yD f
     have m:=U (i.o.lower c.o);have k:=U (show xd r s=xd l s by rw[<-b.o,xd,Dl f]);rcases c.o with rfl|⟨a,cs,rfl,z,d⟩
     .go_wp2_with fail
      exact Ot
     .have H:=zcy wr (show g≠a by omega) p.o d
      go_wp2_with fail;exact Ot
theorem iD.form(h:iD w C u):∃p,u=.pointer p:=by
 rcases h with rfl|⟨g,cs,rfl,_⟩
 .exact⟨_,rfl⟩
 .exact⟨_,rfl⟩
theorem RW{l a:List Pa}{x:Pa}(b:l[j]?=some x):(l.take (j+1)).reverse++a=x::((l.take j).reverse++a):=by
 rw[Yr,b];simp
theorem yp(w:C3)(C D B:Nat)(u v:C4)(n l:List Pa)(x:C4)(hD:D<=w.heap.size)(hB:B<=w.heap.size)(f:iD w C u)(hC:C<=w.heap.size)(d:gW w C u D v n)(i:e5 B w x l):
 Cy 89 #[v,x] w fun e w'=>∃v',e=.returned v'/\gW w' C u w'.heap.size v' (l.reverse++n)/\Cx w w':=by
 obtain⟨_,rfl⟩:=(d.fin f).form;obtain⟨A,c,rfl,_⟩:=i.form;have r:=U i;have s:=U (d.up hD);have t:=U f;clear d i f;go_enter func89,ntmps89;go_wp2_with fail
 go_loopw [0,9] (fun v iv wr=>∃j:Nat,j<=l.length/\iv=.int .i64 j/\gW wr C u wr.heap.size v ((l.take j).reverse++n)/\Cx w wr) (fun _ iv _=>l.length-(intOf iv).toNat)
 case atStart=>exact⟨0,Dw _,rfl,by simpa using s.o,D1 _ _⟩
 case round=>
  obtain⟨j,_,rfl,k,a⟩:=hrel;have G:=a.size;have y:=U (t.o.keep (w':=wr) fun g E _=>a.block g O);obtain⟨p,rfl⟩:=(k.fin y.o).form;have q:=U k;clear k;by_cases F:j<l.length
  .obtain⟨b,m⟩:∃e,l[j]?=some e:=⟨_,Dz F⟩
   obtain⟨g,o,rfl,E,_,_⟩:=(r.o.below (a.mono hB) Zr).cells m;have z:=U m;have H:g<wr.heap.size:=O
   clear m;go_wp2_with fail;go_roundw
   case rel=>
    refine⟨j+1,O,by go_num,?_,(a.alloc G _).alloc Uq _⟩;rw[RW z.o];refine⟨wr.heap.size+1,_,rfl,O,Ur,?_,(q.o.below ((Zb.alloc Zr _).alloc Ur _)).up O⟩;have:=Dq (wr.alloc (.cells #[b.name,(b.type:Int)] 100)) (.cells #[b.name,(b.type:Int),.pointer p] 185);simpa using this
   case measure=>simp[intOf];omega
  .go_wp2_with fail
   go_ret;refine⟨_,rfl,?_,a⟩;have:=q.o;rwa [D9 O]at this
def l7(p:Pr):Prop:=∀f∈p.funcs,f.params.length<=8/\∀x∈f.params,x.type=1\/x.type=2
theorem IP(b:eK p=true):l7 p:=fun f hf=>by
 unfold eK at b;rw[Dv,Yv,Yv]at b;have a:=b.2 f hf;unfold xr at a;simp only[Dv,decide_eq_true_eq,Yv]at a;refine⟨a.1.1.2,fun x d=>?_⟩;have c:=a.1.2 x d;unfold vk gM at c;simp only[Dv,Bool.or_eq_true,decide_eq_true_eq,beq_iff_eq]at c;exact c.2
def wJ(B:Nat)(w:C3)(v:C4)(l:List Int):Prop:=vR v l.length (uI 1 (fun(t:Int) g o=>dZ B w g o (.int .i64 t)) l)
theorem wJ.below{a:Nat}(b:wJ B w v l)(c:Below B w w')(hB:B<=a):wJ a w' v l:=vR.imp b fun g o=>uI.imp (fun _ _ _ d=>d.below c hB) l g o
theorem wJ.form(b:wJ B w v l):∃A a,v=.slice A l.length a/\l.length<=281474976710656:=by
 obtain⟨A,a,d,c,_⟩:=b;exact⟨A,a,d,c⟩
theorem wJ.cells{A:Option Addr}{b:Nat}(c:wJ B w (.slice A n b) l){i:Nat}{t:Int}(a:l[i]?=some t):
 ∃(g o:Nat),A=some ⟨g,o,none⟩/\g<B/\w.cell? (g,o+i)=some (.int .i64 t):=by
 obtain⟨g,o,d,e⟩:=vR.elem c rfl Xl;have:=uI.at l g o i t e a;rw[Nat.mul_one]at this;exact⟨g,o,d,this.1,this.2⟩
theorem vL(B:Nat)(w:C3):wJ B w (.slice none 0 0) []:=⟨none,0,rfl,Dw _,fun h=>absurd h Ur⟩
theorem B7(a:g<B):∀(l:List Int) (o:Nat),(∀j t,l[j]?=some t->w.cell? ⟨g,o+j,none⟩=some (.int .i64 t))->uI 1 (fun(t:Int) g o=>dZ B w g o (.int .i64 t)) l g o
 |[],_,_=>trivial
 | t::r,o,h=>⟨⟨a,h 0 t rfl⟩,B7 a r (o+1) fun j u b=>by
     rw[show o+1+j=o+(j+1)by omega]
     exact h (j+1) u Uz⟩
theorem zv{base:Nat}{size:Nat}{b:List C4}(a:w.ownsRow base e size v n b)(l:∀g,v.ownBlock=some g->w'.heap[g]?=w.heap[g]?):w'.ownsRow base e size v n b:=by
 refine⟨a.1,?_⟩;rcases a.2 with f|⟨g,c,d,rfl,i,j,k⟩
 .exact .inl f
 .exact .inr ⟨g,c,d,rfl,i,(l g rfl).trans j,k⟩
theorem jG{base:Nat}{size:Nat}{b:List C4}(a:w.ownsRow base e size v n b):∃A c,v=.slice A n c:=by
 rcases a.2 with⟨rfl,rfl⟩|⟨g,_,_,rfl,_⟩
 .exact⟨_,_,rfl⟩
 .exact⟨_,_,rfl⟩
theorem zR{base:Nat}{size:Nat}{f:List C4}(b:w.ownsRow base e size v n f)(g:Nat)(a:v.ownBlock=some g):base<=g/\g<w.heap.size:=by
 rcases b.2 with⟨rfl,rfl⟩|⟨k,_,_,rfl,c,d,_⟩
 .cases a
 .injection a with a
  subst a;exact⟨c,(Array.getElem?_eq_some_iff.1 d).1⟩
theorem qU{base:Nat}{size:Nat}{b:List C4}(a:w.ownsRow base e size v n b)(o:Obj):(w.alloc o).ownsRow base e size v n b:=
 zv a fun g c=>D3 w o g (zR a g c).2
theorem xJ(w:C3)(cs:List C4)(T:TypeId):∀j u,cs[j]?=some u->(w.alloc (.cells cs.toArray T)).cell? ((⟨w.heap.size,0,none⟩:Addr).add j)=some u:=fun j u a=>by
 rw[show(⟨w.heap.size,0,none⟩:Addr).add j=⟨w.heap.size,j,none⟩by unfold Addr.add;split<;>simp_all];exact(Ds (Dq w _) j).trans Uy
theorem kE(w:C3)(cs:List C4)(T:TypeId)(n:Nat)(a:w.heap.size=n):∀j u,cs[j]?=some u->(w.alloc (.cells cs.toArray T)).cell? ((⟨n,0,none⟩:Addr).add j)=some u:=a▸xJ w cs T
theorem RX{l:List Pa}{x:Pa}(h:l[j]?=some x):((l.take j).map (·.type)).map (Value.int .i64)++[Value.int .i64 x.type]=((l.take (j+1)).map (·.type)).map (Value.int .i64):=by
 rw[Yr,h];simp
theorem EP{base:Nat}(f:w.ownsRow base e 1 v n (l.map (Value.int .i64)))(q:n=l.length)(p:l.length<=281474976710656):wJ w.heap.size w v l:=by
 subst q;rcases f.2 with⟨rfl,i⟩|⟨g,c,d,rfl,_,b,_,_,_,k⟩
 .obtain rfl:l=[]:=Yj i
  exact vL _ _
 .have m:g<w.heap.size:=(Array.getElem?_eq_some_iff.1 b).1
  refine⟨_,c,rfl,p,fun _=>⟨g,0,rfl,B7 m l 0 fun j t o=>?_⟩⟩;rw[Yo,Ds b]
  have a:(d.toList.take (l.length*1))[j]?=some (Value.int .i64 t):=by
   rw[k,Yl,o];rfl
  rw[Y5]at a;split at a
  .simpa using a
  .cases a
theorem B8{b:Nat}{fr:Nat×Nat}(a:w.heap[b]?=some (.cells (l.map (Value.int .i64)).toArray T fr))(hB:b<B)(e:l.length<=281474976710656)(c:Nat):wJ B w (.slice (some ⟨b,0,none⟩) l.length c) l:=
 ⟨_,c,rfl,e,fun _=>⟨b,0,rfl,B7 hB l 0 fun j t d=>by
   rw[Yo,Ds a]
   simp[d]⟩⟩
def jw(w:C3)(o:List Int×Int×Int)(e:Ending)(w':C3):Prop:=
 Cx w w'/\∃v,e=.returned (.tuple #[.agg #[v,(o.2.1:Int)],(o.2.2:Int)])/\wJ w'.heap.size w' v o.1/\∀k,v.ownBlock=some k->w.heap.size<=k
def AA(p:Pr)(s:C2):List Int×Int×Int:=match jN p s with
 |some f=>(f.params.map (·.type),f.type,0)
 |none=>([],0,50)
theorem l8(B:Nat)(p:Pr)(s:C2)(z:Int)(a:ko (qN p.funcs s)=z)(v0 v1:C4)(w:C3)(hB:B<=w.heap.size)(ha:eZ B w v0 p.wa)(hf:e0 B w v1 p.funcs):
 Cy 87 #[.agg #[v0,v1],s] w (Cv (z:Int) w):=a▸NQ B p s v0 v1 w hB ha hf
theorem xK:(Tryz.prog.info? 3).map (fun i=>(i.zero,i.size,i.bytes))=some (some (.int .i64 0),1,8):=by kernel_rfl
theorem zB{b:Nat}{o:Obj}(h:w.heap[b]?=some o):b<w.heap.size:=(Array.getElem?_eq_some_iff.1 h).1
theorem zD{b c:C4}(a:w.heap[g]?=some (.cells #[b,c] T (0,0))):(w.cell? (g,0)=some b/\w.cell? (g,1)=some c)/\∀o,w.frozen? ⟨g,o,none⟩=false:=
 ⟨⟨(Ds a 0).trans rfl,(Ds a 1).trans rfl⟩,fun o=>Vv⟩
theorem jd{c d:C4}(e:W.heap[g]?=some (.cells #[c,d] T (0,0)))(a b:C4):((W.setCell (g,0) a).setCell (g,1) b).cell? (g,0)=some a/\((W.setCell (g,0) a).setCell (g,1) b).cell? (g,1)=some b:=
 (zD (D0 (D0 e a) b)).1
theorem RY{d e:C4}(f:W.heap[g]?=some (.cells #[d,e] T (0,0)))(a b:C4)(o:Obj):(((W.setCell (g,0) a).setCell (g,1) b).alloc o).cell? (g,0)=some a/\(((W.setCell (g,0) a).setCell (g,1) b).alloc o).cell? (g,1)=some b:=by
 have c:((W.setCell (g,0) a).setCell (g,1) b).heap[g]?=some (.cells #[a,b] T (0,0)):=D0 (D0 f a) b;exact(zD ((D3 _ o g (zB c)).trans c)).1
theorem qY(d:Below B w W)(a:B<=g)(b c:C4):Below B w ((W.setCell (g,0) b).setCell (g,1) c):=(d.setCell (p:=(g,0)) a _).setCell (p:=(g,1)) a _
abbrev K8(v:C4)(t:Int):Obj:=.cells #[v,(t:Int)] 217
theorem EQ(B:Nat)(p:Pr)(s:C2)(v0 v1:C4)(w:C3)(hB:B<=w.heap.size)(ha:eZ B w v0 p.wa)(hf:e0 B w v1 p.funcs)(a:qN p.funcs s=none):
 Cy 163 #[.agg #[v0,v1],s] w (jw w ([],0,50)):=by
 obtain⟨d,m,rfl,_⟩:=ha.form;obtain⟨f,n,rfl,_⟩:=hf.form;have g:=U ha;have j:=U hf;have l:=U (show ko (qN p.funcs s)= -1 by rw[a];rfl);clear ha hf a;go_enter func163,ntmps163
 go_wp2_with (go_at_call 87;(with_reducible refine(l8 B p s _ l.o _ _ _ Uq (g.o.below ((Zb.alloc hB _).alloc Uq _) Zr) (j.o.below ((Zb.alloc hB _).alloc Uq _) Zr)).mono ?_);rintro e r ⟨rfl,b⟩
              have c:=U ((b.block (w.heap.size+1) Ur).trans (show _=some (K8 (.slice none 0 0) 0)by simpa using Dq (w.alloc (qW d p.wa.length m f p.funcs.length n)) (K8 (.slice none 0 0) 0)));obtain⟨⟨_,_⟩,_⟩:=zD c.o;have i:=C0 (Cx w r) (((Zb.alloc Zr _).alloc Ur _).trans (b.mono Uq))
              clear b)
 obtain⟨q,f1⟩:=jd c.o (.slice none 0 0) (.int .i64 0);refine bodyPost_ret (v:=.tuple #[.agg #[(),(0:Int)],(50:Int)]) (by simp[results,results163,go_sem,q,f1]) rfl ?_;exact⟨qY i.o O _ _,_,rfl,vL _ _,fun k a=>Xb⟩
theorem B9(B:Nat)(p:Pr)(s:C2)(v0 v1:C4)(w:C3)(hB:B<=w.heap.size)(ha:eZ B w v0 p.wa)(hf:e0 B w v1 p.funcs){f:Fu}(c:qN p.funcs s=some k)(y:p.funcs[k]?=some f)(_:f.params.length<=8):
 Cy 163 #[.agg #[v0,v1],s] w (jw w (f.params.map (·.type),f.type,0)):=by
 obtain⟨D,L,rfl,_⟩:=ha.form;obtain⟨E,M,rfl,_⟩:=hf.form;obtain⟨aq,N,P,Q,R⟩:=info_parts xK;have n:=U (Do N (Do P (Do Q R)));have V:=U ha;have G:=U hf;have Y:=U (show ko (qN p.funcs s)=(k:Int)by rw[c];rfl);have Z:=U y;have aw:k<p.funcs.length:=(List.getElem?_eq_some_iff.1 y).1;clear ha hf c y N P Q R;go_enter func163,ntmps163
 go_wp2_with (go_at_call 87;(with_reducible refine(l8 B p s _ Y.o _ _ _ Uq (V.o.below ((Zb.alloc hB _).alloc Uq _) Zr) (G.o.below ((Zb.alloc hB _).alloc Uq _) Zr)).mono ?_);rintro e a ⟨rfl,l⟩
              have I:=U ((l.block (w.heap.size+1) Ur).trans (show _=some (K8 (.slice none 0 0) 0)by simpa using Dq (w.alloc (qW D p.wa.length L E p.funcs.length M)) (K8 (.slice none 0 0) 0)));have ab:=U ((l.block w.heap.size Uq).trans (show _=some (qW D p.wa.length L E p.funcs.length M)from(D3 _ _ _ Ur).trans (Dq w _)));obtain⟨⟨_,_⟩,_⟩:=zD ab.o;obtain⟨⟨_,_⟩,_⟩:=zD I.o;have r:Cx w a:=((Zb.alloc Zr _).alloc Ur _).trans (l.mono Uq);have W:=U r;obtain⟨g,o,_,_,rfl,_,_,_,_,_,hp,ak⟩:=(G.o.below (r.mono hB) Zr).cells Z.o;obtain⟨_,_,rfl,_⟩:=hp.form;have ad:=U hp;have au:g<a.heap.size:=by have:=r.size;omega
              have aA:w.heap.size+1<a.heap.size:=by have:=l.size;simp at this;omega
              have az:w.heap.size<a.heap.size:=O
              have ax:g≠a.heap.size:=O
              have ay:a.heap.size≠g:=O
              clear l r hp ak)
 go_loopw [30] (fun iv wr=>∃(j:Nat) (v:C4),j<=f.params.length/\iv=.int .i64 j/\wr.heap[a.heap.size]?=some (K8 v f.type)/\wr.ownsRow (a.heap.size+1) 3 1 v j (((f.params.take j).map (·.type)).map (Value.int .i64))/\Cx a wr) (fun iv _=>f.params.length-(intOf iv).toNat)
 case atStart=>exact⟨0,_,Dw _,rfl,Dq _ _,Ym _ _ _ _,Zb.alloc Zr _⟩
 case round=>
  obtain⟨j,v,_,rfl,i,m,d⟩:=hrel;have ao:=d.size;have ap:=zB i;obtain⟨t,u,rfl⟩:=jG m;obtain⟨⟨_,_⟩,_⟩:=zD i;have ar:=U i;have q:=U m;have F:=U d;by_cases an:j<f.params.length
  .obtain⟨b,C⟩:∃e,f.params[j]?=some e:=⟨_,Dz an⟩
   obtain⟨aj,_,rfl,_,_,_⟩:=(ad.o.below (d.mono (show B<=a.heap.size by omega)) Zr).cells C;have ag:=U C;have av:aj<wr.heap.size:=O
   have ae:=U (qU (qU m (.cells #[b.name,(b.type:Int)] 100)) (.cells #[(b.type:Int)] 3));have aa:=U (kE (wr.alloc (.cells #[b.name,(b.type:Int)] 100)) [.int .i64 b.type] 3 (wr.heap.size+1) Ur);have af:=U ((D3 (wr.alloc (.cells #[b.name,(b.type:Int)] 100)) (.cells #[(b.type:Int)] 3) a.heap.size Uq).trans ((D3 wr (.cells #[b.name,(b.type:Int)] 100) a.heap.size ap).trans i));clear C i m d
   go_wp2_with (at_builtin;refine wpList_append_own _ rfl (.tmp 35) (.tmp 38) _ rfl (a.heap.size+1) 3 aq _ 1 8 underlying23 n.o.1 n.o.2.1 n.o.2.2.1 n.o.2.2.2 rfl O (.slice t j u) j _ rfl (by exact ae.o) ⟨wr.heap.size+1,0,none⟩ 1 1 [.int .i64 b.type] rfl rfl (by exact aa.o) Uw Uv O Uq ?_
                intro v1 S A x _;obtain⟨T,ah,rfl⟩:=jG A;have X:=U x;have H:=U A;have K:=U ((x.block a.heap.size Uq (fun e=>by have:=(zR q.o _ e.symm).1;omega)).trans af.o);obtain⟨⟨_,_⟩,_⟩:=zD K.o
                clear A x)
   go_roundw
   case rel=>
    have al:Cx a S:=((F.o.alloc ao _).alloc Uq _).grown X.o Uq fun k c=>by have:=(zR q.o _ c).1;omega
    refine⟨j+1,_,O,by go_num,D0 K.o (.slice T (j+1) ah),?_,al.setCell (p:=(a.heap.size,0)) Zr _⟩;rw[<-RX ag.o];exact zv H.o fun k c=>Dx S _ _ k (by have:=(zR H.o _ c).1;show k≠a.heap.size;omega)
   case measure=>simp[intOf];omega
  .have am:j=f.params.length:=by omega
   subst am;have J:=U ((d.block (w.heap.size+1) O).trans I.o);obtain⟨⟨_,_⟩,_⟩:=zD J.o;have aB:w.heap.size+1<wr.heap.size:=O
   clear i m d;go_wp2_with fail;obtain⟨ai,f1⟩:=jd J.o (.slice t f.params.length u) (.int .i64 f.type);refine bodyPost_ret (v:=.tuple #[.agg #[(t,f.params.length,u),(f.type:Int)],(0:Int)]) (by simp[results,results163,go_sem,ai,f1]) rfl ?_;refine⟨qY (W.o.trans (F.o.mono O)) O _ _,_,rfl,?_,fun k c=>by have:=(zR q.o _ c).1;omega⟩;have z:=q.o;rw[D9 Zr]at z;refine EP (zv z fun k c=>?_) Ur Uq;have:=(zR z _ c).1;exact(Dx _ _ _ k Kp).trans (Dx _ _ _ k Kp)
theorem CC(B:Nat)(p:Pr)(s:C2)(v0 v1:C4)(w:C3)(hB:B<=w.heap.size)(ha:eZ B w v0 p.wa)(hf:e0 B w v1 p.funcs)(hp:l7 p):
 Cy 163 #[.agg #[v0,v1],s] w (jw w (AA p s)):=by
 cases hk:qN p.funcs s with
 |none=>
   have e:AA p s=([],0,50):=by unfold AA jN;rw[hk];rfl
   rw[e];exact EQ B p s v0 v1 w hB ha hf hk
 |some k=>
   obtain⟨f,a,_,_⟩:=ye hk;have e:AA p s=(f.params.map (·.type),f.type,0):=by unfold AA jN;rw[hk,Option.bind_some,a]
   rw[e];exact B9 B p s v0 v1 w hB ha hf hk a (hp f (Ye a)).1
def qA(p:Pr)(tf:List Pa)(k op:Int)(s:C2):List Int×Int×Int:=
 if k=1\/k=8 then([],1,0)
 else if k=2 then([],2,0)
 else if k=3 then(match zX tf s with|some t=>([],t,0)|none=>([],0,50))
 else if k=4 then([jZ op],vx op,0)
 else if k=5 then([jZ op,jZ op],vx op,0)
 else if k=6 then(if(ze p.wa s).isSome then([1],1,0)else([],0,50))
 else AA p s
abbrev yy(k op n:Int)(s:C2)(A:Option Addr)(m c:Nat):Obj:=.cells #[(k:Int),(op:Int),(n:Int),s,(A,m,c)] 147
theorem l9(B:Nat)(p:Pr)(s:C2)(z:Int)(a:ko (ze p.wa s)=z)(v0 v1:C4)(w:C3)(hB:B<=w.heap.size)(ha:eZ B w v0 p.wa)(hf:e0 B w v1 p.funcs):
 Cy 135 #[.agg #[v0,v1],s] w (Cv (z:Int) w):=a▸NR B p s v0 v1 w hB ha hf
abbrev RZ(w:C3)(a b:Obj):C3:=((w.alloc a).alloc b).alloc (K8 (.slice none 0 0) 0)
theorem zi(hB:B<=w.heap.size)(a b:Obj):Below B w (RZ w a b):=((Zb.alloc hB _).alloc Uq _).alloc Uq _
theorem xX(w:C3)(a b:Obj):(RZ w a b).heap[w.heap.size+1+1]?=some (K8 (.slice none 0 0) 0):=by
 have:=Dq ((w.alloc a).alloc b) (K8 (.slice none 0 0) 0);simpa using this
theorem R0(b c:C4){o:Nat}(a:k≠g):((W.setCell (g,0) b).setCell (g,1) c).cell? (k,o)=W.cell? (k,o):=
 (D4 (w:=W) ((Dx _ _ _ k Xd).trans (Dx _ _ _ k Xd)))
def SlJ(g:Nat)(B:Nat)(w:C3)(v:C4)(l:List Int):Prop:=vR v l.length (uI 1 (fun(t:Int) k o=>k≠g/\dZ B w k o (.int .i64 t)) l)
theorem wJ.apart{W:C3}{L:Nat}(e:wJ B w v l)(a:∀k,v.ownBlock=some k->L<=k)(_:g<L):SlJ g B w v l:=by
 obtain⟨A,c,rfl,b,hF⟩:=e;refine⟨A,c,rfl,b,fun hp=>?_⟩;obtain⟨k,o,rfl,d⟩:=hF hp;have i:L<=k:=a k rfl;refine⟨k,o,rfl,?_⟩;clear hF b hp a
 induction l generalizing o with
 |nil=>trivial
 |cons t r f=>exact⟨⟨O,d.1⟩,f (o+1) d.2⟩
theorem SlJ.back{b:Nat}{W:C3}(e:SlJ g B w v l)(hB:B<=b)(c d:C4):wJ b ((w.setCell (g,0) c).setCell (g,1) d) v l:=
 vR.imp e fun _ _=>uI.imp (fun _ _ _ a=>⟨D6 a.2.1 hB,(R0 c d a.1).trans a.2.2⟩) l _ _
set_option linter.unusedSectionVars false
section
variable (B C D:Nat)(p:Pr)(tf:List Pa)(op n:Int)(s:C2)(A:Option Addr)(m c:Nat)(v0 v1 v:C4)(w:C3)
variable (hB:B<=w.heap.size)(hC:C<=w.heap.size)(hD:D<=w.heap.size)(ha:eZ B w v0 p.wa)(hf:e0 B w v1 p.funcs)(hS:gW w C (.pointer none) D v tf.reverse)(hp:l7 p)
include hB hC hD ha hf hS hp in
theorem IQ:Cy 153 #[.agg #[v0,v1],v,.agg #[(1:Int),(op:Int),(n:Int),s,(A,m,c)]] w (jw w ([],1,0)):=by
 exact Om
include hB hC hD ha hf hS hp in
theorem ER:Cy 153 #[.agg #[v0,v1],v,.agg #[(8:Int),(op:Int),(n:Int),s,(A,m,c)]] w (jw w ([],1,0)):=by
 exact Om
include hB hC hD ha hf hS hp in
theorem CD:Cy 153 #[.agg #[v0,v1],v,.agg #[(2:Int),(op:Int),(n:Int),s,(A,m,c)]] w (jw w ([],2,0)):=by
 obtain⟨a,d,rfl,_⟩:=ha.form;obtain⟨b,e,rfl,_⟩:=hf.form;obtain⟨q,rfl⟩:=(hS.fin (iD.nil _ _)).form;have g:=U ha;have i:=U hf;have l:=U hS;have j:=U hp;have r:=U (fun k=>zi (B:=B) hB (qW a p.wa.length d b p.funcs.length e) (yy k op n s A m c));have t:=U (fun k=>zi (B:=w.heap.size) Zr (qW a p.wa.length d b p.funcs.length e) (yy k op n s A m c));have o:=U (fun k=>xX w (qW a p.wa.length d b p.funcs.length e) (yy k op n s A m c));clear ha hf hS hp;go_enter func153,ntmps153;go_wp2_with fail;refine bodyPost_ret (v:=.tuple #[.agg #[(),(2:Int)],(0:Int)]) (by simp[results,results153,go_sem]) rfl ?_;exact⟨(((Zb.alloc Zr _).alloc Ur _).alloc Uq _),_,rfl,vL _ _,fun k f=>by cases f⟩
include hB hC hD ha hf hS hp in
theorem wQ(i:zX tf s=none):Cy 153 #[.agg #[v0,v1],v,.agg #[(3:Int),(op:Int),(n:Int),s,(A,m,c)]] w (jw w ([],0,50)):=by
 obtain⟨a,d,rfl,_⟩:=ha.form;obtain⟨b,f,rfl,_⟩:=hf.form;obtain⟨q,rfl⟩:=(hS.fin (iD.nil _ _)).form;have u:=U ha;have x:=U hf;have j:=U hS;have y:=U hp;have E:=U (fun k=>zi (B:=B) hB (qW a p.wa.length d b p.funcs.length f) (yy k op n s A m c));have F:=U (fun k=>zi (B:=w.heap.size) Zr (qW a p.wa.length d b p.funcs.length f) (yy k op n s A m c));have z:=U (fun k=>xX w (qW a p.wa.length d b p.funcs.length f) (yy k op n s A m c));have l:=U ((yY s tf).symm.trans i);clear ha hf hS hp i;go_enter func153,ntmps153
 go_wp2_with (go_at_call 110;(with_reducible refine(xD _ C D _ _ _ s Uq (iD.nil _ _) (j.o.below (zi hD (qW a p.wa.length d b p.funcs.length f) (yy 3 op n s A m c)))).mono ?_);rintro e _ ⟨g,rfl⟩
              have r:e=.returned (.pointer none):=by
               rw[l.o]at g;exact g
              clear g
              subst r)
 refine bodyPost_ret (v:=.tuple #[.agg #[(),(0:Int)],(50:Int)]) (by simp[results,results153,go_sem]) rfl ?_;exact⟨(((Zb.alloc Zr _).alloc Ur _).alloc Uq _),_,rfl,vL _ _,fun k t=>by cases t⟩
include hB hC hD ha hf hS hp in
theorem r7(t:Int)(j:zX tf s=some t):Cy 153 #[.agg #[v0,v1],v,.agg #[(3:Int),(op:Int),(n:Int),s,(A,m,c)]] w (jw w ([],t,0)):=by
 obtain⟨a,d,rfl,_⟩:=ha.form;obtain⟨b,f,rfl,_⟩:=hf.form;obtain⟨q,rfl⟩:=(hS.fin (iD.nil _ _)).form;have y:=U ha;have z:=U hf;have l:=U hS;have E:=U hp;have G:=U (fun k=>zi (B:=B) hB (qW a p.wa.length d b p.funcs.length f) (yy k op n s A m c));have H:=U (fun k=>zi (B:=w.heap.size) Zr (qW a p.wa.length d b p.funcs.length f) (yy k op n s A m c));have F:=U (fun k=>xX w (qW a p.wa.length d b p.funcs.length f) (yy k op n s A m c));have r:=U ((yY s tf).symm.trans j);clear ha hf hS hp j;go_enter func153,ntmps153
 go_wp2_with (go_at_call 110;(with_reducible refine(xD _ C D _ _ _ s Uq (iD.nil _ _) (l.o.below (zi hD (qW a p.wa.length d b p.funcs.length f) (yy 3 op n s A m c)))).mono ?_);rintro e _ ⟨i,rfl⟩
              have u:∃g,e=.returned (.pointer (some ⟨g,0,none⟩))/\g<D/\(RZ w (qW a p.wa.length d b p.funcs.length f) (yy 3 op n s A m c)).cell? ⟨g,1,none⟩=some (.int .i64 t):=by
               rw[r.o]at i;exact i
              clear i;obtain⟨g,rfl,_,_⟩:=u;have I:g<w.heap.size:=O
              have J:g≠w.heap.size+1+1:=O)
 refine bodyPost_ret (v:=.tuple #[.agg #[(),(t:Int)],(0:Int)]) (by simp[results,results153,go_sem]) rfl ?_;exact⟨(((Zb.alloc Zr _).alloc Ur _).alloc Uq _),_,rfl,vL _ _,fun k x=>by cases x⟩
include hB hC hD ha hf hS hp in
theorem IR:Cy 153 #[.agg #[v0,v1],v,.agg #[(4:Int),(op:Int),(n:Int),s,(A,m,c)]] w (jw w ([jZ op],vx op,0)):=by
 obtain⟨a,d,rfl,_⟩:=ha.form;obtain⟨b,f,rfl,_⟩:=hf.form;obtain⟨q,rfl⟩:=(hS.fin (iD.nil _ _)).form;have i:=U ha;have j:=U hf;have r:=U hS;have o:=U hp;have u:=U (fun k=>zi (B:=B) hB (qW a p.wa.length d b p.funcs.length f) (yy k op n s A m c));have x:=U (fun k=>zi (B:=w.heap.size) Zr (qW a p.wa.length d b p.funcs.length f) (yy k op n s A m c));have t:=U (fun k=>xX w (qW a p.wa.length d b p.funcs.length f) (yy k op n s A m c));clear ha hf hS hp;go_enter func153,ntmps153;go_wp2_with (go_at_call 162;(with_reducible refine(l5 op _).mono ?_);rintro e _ ⟨rfl,rfl⟩);refine bodyPost_ret (v:=.tuple #[.agg #[.slice (some ⟨w.heap.size+1+1+1,0,none⟩) 1 1,(vx op:Int)],(0:Int)]) (by simp[results,results153,go_sem]) rfl ?_;refine⟨(((Zb.alloc Zr _).alloc Ur _).alloc Uq _).alloc Uq _,_,rfl,?_,fun k g=>Hb⟩;exact B8 (l:=[jZ op]) (T:=3) (fr:=(0,0)) (by have:=Dq (((w.alloc (qW a p.wa.length d b p.funcs.length f)).alloc (yy 4 op n s A m c)).alloc (K8 (.slice (some ⟨w.heap.size+1+1+1,0,none⟩) 1 1) (vx op))) (.cells #[(jZ op:Int)] 3);simpa using this) Ur Ur 1
include hB hC hD ha hf hS hp in
theorem IS:Cy 153 #[.agg #[v0,v1],v,.agg #[(5:Int),(op:Int),(n:Int),s,(A,m,c)]] w (jw w ([jZ op,jZ op],vx op,0)):=by
 obtain⟨a,d,rfl,_⟩:=ha.form;obtain⟨b,f,rfl,_⟩:=hf.form;obtain⟨q,rfl⟩:=(hS.fin (iD.nil _ _)).form;have i:=U ha;have j:=U hf;have r:=U hS;have o:=U hp;have u:=U (fun k=>zi (B:=B) hB (qW a p.wa.length d b p.funcs.length f) (yy k op n s A m c));have x:=U (fun k=>zi (B:=w.heap.size) Zr (qW a p.wa.length d b p.funcs.length f) (yy k op n s A m c));have t:=U (fun k=>xX w (qW a p.wa.length d b p.funcs.length f) (yy k op n s A m c));clear ha hf hS hp;go_enter func153,ntmps153;go_wp2_with (go_at_call 162;(with_reducible refine(l5 op _).mono ?_);rintro e _ ⟨rfl,rfl⟩);refine bodyPost_ret (v:=.tuple #[.agg #[.slice (some ⟨w.heap.size+1+1+1,0,none⟩) 2 2,(vx op:Int)],(0:Int)]) (by simp[results,results153,go_sem]) rfl ?_;refine⟨(((Zb.alloc Zr _).alloc Ur _).alloc Uq _).alloc Uq _,_,rfl,?_,fun k g=>Hb⟩;exact B8 (l:=[jZ op,jZ op]) (T:=3) (fr:=(0,0)) (by have:=Dq (((w.alloc (qW a p.wa.length d b p.funcs.length f)).alloc (yy 5 op n s A m c)).alloc (K8 (.slice (some ⟨w.heap.size+1+1+1,0,none⟩) 2 2) (vx op))) (.cells #[(jZ op:Int),(jZ op:Int)] 3);simpa using this) Ur Ur 2
include hB hC hD ha hf hS hp in
theorem p0(b:ze p.wa s=none):Cy 153 #[.agg #[v0,v1],v,.agg #[(6:Int),(op:Int),(n:Int),s,(A,m,c)]] w (jw w ([],0,50)):=by
 obtain⟨d,g,rfl,_⟩:=ha.form;obtain⟨f,i,rfl,_⟩:=hf.form;obtain⟨q,rfl⟩:=(hS.fin (iD.nil _ _)).form;have t:=U ha;have x:=U hf;have F:=U hS;have E:=U hp;have j:=U (fun k=>zi (B:=B) hB (qW d p.wa.length g f p.funcs.length i) (yy k op n s A m c));have C:=U (fun k=>zi (B:=w.heap.size) Zr (qW d p.wa.length g f p.funcs.length i) (yy k op n s A m c));have z:=U (fun k=>xX w (qW d p.wa.length g f p.funcs.length i) (yy k op n s A m c));have y:=U (show ko (ze p.wa s)= -1 by rw[b];rfl);clear ha hf hS hp b;go_enter func153,ntmps153
 go_wp2_with (go_at_call 135;(with_reducible refine(l9 B p s _ y.o _ _ _ Uq (t.o.below (j.o 6) Zr) (x.o.below (j.o 6) Zr)).mono ?_);rintro e r ⟨rfl,a⟩
              have l:=U ((a.block (w.heap.size+1+1) Ur).trans (z.o 6));obtain⟨⟨_,_⟩,_⟩:=zD l.o;have G:w.heap.size+1+1<r.heap.size:=Kl
              have u:=C0 (Cx w r) ((C.o 6).trans (a.mono Uq))
              clear a)
 obtain⟨D,f1⟩:=jd l.o (.slice none 0 0) (.int .i64 (0));refine bodyPost_ret (v:=.tuple #[.agg #[(),(0:Int)],(50:Int)]) (by simp[results,results153,go_sem,D,f1]) rfl ?_;refine⟨qY u.o O _ _,_,rfl,?_,?_⟩
 .exact vL _ _
 .exact fun k b=>Vo
include hB hC hD ha hf hS hp in
theorem nU(k:Nat)(b:ze p.wa s=some k):Cy 153 #[.agg #[v0,v1],v,.agg #[(6:Int),(op:Int),(n:Int),s,(A,m,c)]] w (jw w ([1],1,0)):=by
 obtain⟨f,i,rfl,_⟩:=ha.form;obtain⟨g,j,rfl,_⟩:=hf.form;obtain⟨q,rfl⟩:=(hS.fin (iD.nil _ _)).form;have u:=U ha;have y:=U hf;have G:=U hS;have F:=U hp;have r:=U (fun k=>zi (B:=B) hB (qW f p.wa.length i g p.funcs.length j) (yy k op n s A m c));have D:=U (fun k=>zi (B:=w.heap.size) Zr (qW f p.wa.length i g p.funcs.length j) (yy k op n s A m c));have C:=U (fun k=>xX w (qW f p.wa.length i g p.funcs.length j) (yy k op n s A m c));have z:=U (show ko (ze p.wa s)=(k:Int)by rw[b];rfl);clear ha hf hS hp b;go_enter func153,ntmps153
 go_wp2_with (go_at_call 135;(with_reducible refine(l9 B p s _ z.o _ _ _ Uq (u.o.below (r.o 6) Zr) (y.o.below (r.o 6) Zr)).mono ?_);rintro e a ⟨rfl,d⟩
              have t:=U ((d.block (w.heap.size+1+1) Ur).trans (C.o 6));obtain⟨⟨_,_⟩,_⟩:=zD t.o;have H:w.heap.size+1+1<a.heap.size:=Km
              have x:=C0 (Cx w a) ((D.o 6).trans (d.mono Uq))
              clear d)
 obtain⟨E,f1⟩:=RY t.o (.slice (some ⟨a.heap.size,0,none⟩) 1 1) (.int .i64 (1)) (.cells #[(1:Int)] 3);refine bodyPost_ret (v:=.tuple #[.agg #[.slice (some ⟨a.heap.size,0,none⟩) 1 1,(1:Int)],(0:Int)]) (by simp[results,results153,go_sem,E,f1]) rfl ?_;refine⟨(qY x.o O _ _).alloc Uq _,_,rfl,?_,?_⟩
 .exact B8 (l:=[1]) (T:=3) (fr:=(0,0)) (by have:=Dq ((a.setCell ⟨w.heap.size+1+1,0,none⟩ (.slice (some ⟨a.heap.size,0,none⟩) 1 1)).setCell ⟨w.heap.size+1+1,1,none⟩ (1:Int)) (.cells #[(1:Int)] 3);simpa using this) Ur Ur 1
 .exact fun k b=>by injection b with b;subst b;show w.heap.size<=a.heap.size;omega
include hB hC hD ha hf hS hp in
theorem ES:Cy 153 #[.agg #[v0,v1],v,.agg #[(7:Int),(op:Int),(n:Int),s,(A,m,c)]] w (jw w (AA p s)):=by
 obtain⟨d,i,rfl,_⟩:=ha.form;obtain⟨f,j,rfl,_⟩:=hf.form;obtain⟨q,rfl⟩:=(hS.fin (iD.nil _ _)).form;have C:=U ha;have E:=U hf;have M:=U hS;have H:=U hp;have x:=U (fun k=>zi (B:=B) hB (qW d p.wa.length i f p.funcs.length j) (yy k op n s A m c));have J:=U (fun k=>zi (B:=w.heap.size) Zr (qW d p.wa.length i f p.funcs.length j) (yy k op n s A m c));have I:=U (fun k=>xX w (qW d p.wa.length i f p.funcs.length j) (yy k op n s A m c));clear ha hf hS hp;go_enter func153,ntmps153
 go_wp2_with (go_at_call 163;(with_reducible refine(CC B p s _ _ _ Uq (C.o.below (x.o 7) Zr) (E.o.below (x.o 7) Zr) H.o).mono ?_);rintro e b ⟨a,u,rfl,l,r⟩
              obtain⟨t,z,rfl,_⟩:=l.form;have F:=U (l.apart (W:=b) (g:=w.heap.size+1+1) r Ur);have y:=U ((a.block (w.heap.size+1+1) Ur).trans (I.o 7));obtain⟨⟨_,_⟩,_⟩:=zD y.o;have N:w.heap.size+1+1<b.heap.size:=Kl
              have D:=C0 (Cx w b) ((J.o 7).trans (a.mono Uq));have G:=U r
              clear a l r)
 obtain⟨K,f1⟩:=jd y.o (.slice t (AA p s).1.length z) (.int .i64 ((AA p s).2.1));refine bodyPost_ret (v:=.tuple #[.agg #[.slice t (AA p s).1.length z,(((AA p s).2.1):Int)],(((AA p s).2.2):Int)]) (by simp[results,results153,go_sem,K,f1]) rfl ?_;refine⟨qY D.o O _ _,_,rfl,?_,?_⟩
 .exact F.o.back (W:=b) Ur _ _
 .exact fun k L=>by have:=G.o k L;simp at this;omega
end
