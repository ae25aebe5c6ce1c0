import Derived.Test.YtjadgpiafjdnfaaGreatDoorAoParVals
set_option linter.unusedSimpArgs false
set_option linter.unusedVariables false
set_option maxRecDepth 100000
set_option maxHeartbeats 99000000
namespace Go.Proofs.YtjadgpiafjdnfaaGreatDoor
open Go.RowKit Tryz
theorem Oo{p:Prop}(h:p:=by
 obtain⟨a,d,rfl,_⟩:=ha.form;obtain⟨b,e,rfl,_⟩:=hf.form;obtain⟨q,rfl⟩:=(hS.fin (i1.nil _ _)).form;have g:=U ha;have i:=U hf;have l:=U hS;have j:=U hp;have r:=U (fun k=>zj (B:=B) hB (qd a p.wa.length d b p.funcs.length e) (ym k op n s A m c));have t:=U (fun k=>zj (B:=w.heap.size) Zr (qd a p.wa.length d b p.funcs.length e) (ym k op n s A m c));have o:=U (fun k=>xU w (qd a p.wa.length d b p.funcs.length e) (ym k op n s A m c));clear ha hf hS hp;go_enter func126,ntmps126;go_wp2_with fail;refine bodyPost_ret (v:=.tuple #[.agg #[(),(1:Int)],(0:Int)]) (by simp[results,results126,go_sem]) rfl ?_
 exact⟨(((Zb.alloc Zr _).alloc Uu _).alloc Ut _),_,rfl,xX _ _,fun k f=>by cases f⟩):p:=h
theorem Oq{p:Prop}(h:p:=by
 obtain⟨j,_,rfl,m,rfl⟩:=hrel;have b:=U m;clear m;by_cases t:j<p.funcs.length
 .obtain⟨x,c⟩:∃e,p.funcs[j]?=some e:=⟨_,D2 t⟩
  obtain⟨g,o,_,_,rfl,_,_,_,_,_,hp,q⟩:=(n.o.below ((D5 B w).alloc hB (qd d p.wa.length k f p.funcs.length l)) Zr).cells c;have i:=U c;have u:g<w.heap.size:=O
  clear c hp q;by_cases a:x.name=s
  .have r:=xw a
   go_wp2_with fail;go_ret;exact⟨qL (by rw[n7 b.o i.o a];rfl),Zb.alloc Zr _⟩
  .have r:=xx a
   go_wp2_with fail;go_roundw
   case rel=>exact⟨j+1,O,by go_num,b.o.succ i.o a,trivial⟩
   case measure=>simp[intOf];omega
 .go_wp2_with fail
  go_ret
  exact⟨qL Oag,Zb.alloc Zr _⟩):p:=h
theorem Ot{p:Prop}(h:p:=by
 obtain⟨j,_,rfl,m,rfl⟩:=hrel;have b:=U m;clear m;by_cases r:j<p.wa.length
 .obtain⟨x,c⟩:∃e,p.wa[j]?=some e:=⟨_,D2 r⟩
  obtain⟨g,o,rfl,_,_,_⟩:=(n.o.below ((D5 B w).alloc hB (qd d p.wa.length k f p.funcs.length l)) Zr).cells c;have i:=U c;have t:g<w.heap.size:=O
  clear c;by_cases a:x.name=s
  .have q:=xw a
   go_wp2_with fail;go_ret;exact⟨qL (by rw[n9 b.o i.o a];rfl),Zb.alloc Zr _⟩
  .have q:=xx a
   go_wp2_with fail;go_roundw
   case rel=>exact⟨j+1,O,by go_num,b.o.succ i.o a,trivial⟩
   case measure=>simp[intOf];omega
 .go_wp2_with fail
  go_ret
  exact⟨qL Oag,Zb.alloc Zr _⟩):p:=h
theorem Ou{p:Prop}(h:p:=by
 by_cases c:i=j
 .subst c
  rw[d]at a;injection a with a;exact a▸e
 .exact b i g O a):p:=h
theorem Ov{p:Prop}(h:p:=by
 go_roundw
 case rel=>exact⟨r,g,O,i.o,k.o,trivial⟩
 case measure=>exact m.o):p:=h
variable{s:C6}{j k C B g n:Nat}{l:List Int}{w w' W:C7}{u v:C8}{T e:TypeId}{p:Pr}{op:Int}
theorem AK:∀{l:List Fu},(∀(j:Nat) f,l[j]?=some f->f.name≠s)->qQ l s=none
 |[],_=>rfl
 | f::r,h=>by
   rw[qQ,Dp (h 0 f rfl),AK fun j g a=>h (j+1) g a];rfl
theorem n7{s:C6}:∀{l:List Fu}{j:Nat}{f:Fu},(∀(i:Nat) g,i<j->l[i]?=some g->g.name≠s)->l[j]?=some f->f.name=s->qQ l s=some j
 |[],_,_,_,hj,_=>by simp at hj
 | g::r,0,f,_,hj,e=>by
   simp at hj;subst hj;rw[qQ,Dq e]
 | g::r,j+1,f,h,hj,e=>by
   rw[qQ,Dp (h 0 g O rfl),n7 (l:=r) (j:=j) (fun i x _ a=>h (i+1) x O a) (by simpa using hj) e];rfl
theorem n8:∀{l:List Ar},(∀(j:Nat) f,l[j]?=some f->f.name≠s)->zb l s=none
 |[],_=>rfl
 | f::r,h=>by
   rw[zb,Dp (h 0 f rfl),n8 fun j g a=>h (j+1) g a];rfl
theorem n9{s:C6}:∀{l:List Ar}{j:Nat}{f:Ar},(∀(i:Nat) g,i<j->l[i]?=some g->g.name≠s)->l[j]?=some f->f.name=s->zb l s=some j
 |[],_,_,_,hj,_=>by simp at hj
 | g::r,0,f,_,hj,e=>by
   simp at hj;subst hj;rw[zb,Dq e]
 | g::r,j+1,f,h,hj,e=>by
   rw[zb,Dp (h 0 g O rfl),n9 (l:=r) (j:=j) (fun i x _ a=>h (i+1) x O a) (by simpa using hj) e];rfl
theorem xv:∀{l:List Fu}{k:Nat},qQ l s=some k->∃f,l[k]?=some f/\f.name=s/\∀(i:Nat) g,i<k->l[i]?=some g->g.name≠s
 |[],_,a=>Xe
 | f::r,k,a=>by
   rw[qQ]at a;split at a
   .rename_i e
    injection a with a;subst a;exact⟨f,rfl,e,fun i g c=>absurd c O⟩
   .rename_i e
    cases hr:qQ r s with
    |none=>rw[hr]at a;cases a
    |some j=>
      rw[hr]at a;obtain rfl:j+1=k:=Xd;obtain⟨g,d,m,n⟩:=xv hr;refine⟨g,Xl,m,fun i x c b=>?_⟩;cases i with
      |zero=>simp at b;subst b;exact e
      |succ i=>exact n i x O Xb
theorem xw{a b:C6}(h:a=b):(a.toList == b.toList)=true:=by simp[h]
theorem xx{a b:C6}(_:a≠b):(a.toList == b.toList)=false:=by
 rw[beq_eq_false_iff_ne];intro e;rw[Ym,Ym]at e;cases a;cases b
 simp_all
def RN(l:List Fu)(s:C6)(j:Nat):Prop:=∀(i:Nat) g,i<j->l[i]?=some g->g.name≠s
def RO(l:List Ar)(s:C6)(j:Nat):Prop:=∀(i:Nat) g,i<j->l[i]?=some g->g.name≠s
theorem RN.zero(l:List Fu)(s:C6):RN l s 0:=fun i g a=>absurd a O
theorem RO.zero(l:List Ar)(s:C6):RO l s 0:=fun i g a=>absurd a O
theorem RN.succ{l:List Fu}{f:Fu}(b:RN l s j)(d:l[j]?=some f)(e:f.name≠s):RN l s (j+1):=fun i g _ a=>by
 exact Ou
theorem RO.succ{l:List Ar}{f:Ar}(b:RO l s j)(d:l[j]?=some f)(e:f.name≠s):RO l s (j+1):=fun i g _ a=>by
 exact Ou
theorem RN.all{l:List Fu}(b:RN l s j)(_:l.length<=j):qQ l s=none:=AK fun i g a=>b i g Xq a
theorem RO.all{l:List Ar}(b:RO l s j)(_:l.length<=j):zb l s=none:=n8 fun i g a=>b i g Xq a
abbrev qd(a:Option Addr)(e c:Nat)(b:Option Addr)(f d:Nat):Obj:=.cells #[(a,e,c),(b,f,d)] 27
theorem NH(B:Nat)(p:Pr)(s:C6)(v0 v1:C8)(w:C7)(hB:B<=w.heap.size)(ha:gN B w v0 p.wa)(hf:gO B w v1 p.funcs):
 C3 58 #[.agg #[v0,v1],s] w (Cz ((jy (qQ p.funcs s)):Int) w):=by
 obtain⟨d,k,rfl,_⟩:=ha.form;obtain⟨f,l,rfl,_⟩:=hf.form;have n:=U hf;clear ha hf;go_enter func58,ntmps58;go_wp2_with fail
 go_loopw [9] (fun iv wr=>∃j:Nat,j<=p.funcs.length/\iv=.int .i64 j/\RN p.funcs s j/\wr=w.alloc (qd d p.wa.length k f p.funcs.length l)) (fun iv _=>p.funcs.length-(intOf iv).toNat)
 case atStart=>exact⟨0,D1 _,rfl,RN.zero _ _,rfl⟩
 case round=>
  exact Oq
theorem NI(B:Nat)(p:Pr)(s:C6)(v0 v1:C8)(w:C7)(hB:B<=w.heap.size)(ha:gN B w v0 p.wa)(hf:gO B w v1 p.funcs):
 C3 107 #[.agg #[v0,v1],s] w (Cz ((jy (zb p.wa s)):Int) w):=by
 obtain⟨d,k,rfl,_⟩:=ha.form;obtain⟨f,l,rfl,_⟩:=hf.form;have n:=U ha;clear ha hf;go_enter func107,ntmps107;go_wp2_with fail
 go_loopw [9] (fun iv wr=>∃j:Nat,j<=p.wa.length/\iv=.int .i64 j/\RO p.wa s j/\wr=w.alloc (qd d p.wa.length k f p.funcs.length l)) (fun iv _=>p.wa.length-(intOf iv).toNat)
 case atStart=>exact⟨0,D1 _,rfl,RO.zero _ _,rfl⟩
 case round=>
  exact Ot
theorem IQ(B:Nat)(p:Pr)(s:C6)(v0 v1:C8)(w:C7)(hB:B<=w.heap.size)(ha:gN B w v0 p.wa)(hf:gO B w v1 p.funcs):
 C3 20 #[.agg #[v0,v1],s] w (Cz ((jy (qQ p.funcs s)):Int) w):=by
 obtain⟨d,k,rfl,_⟩:=ha.form;obtain⟨f,l,rfl,_⟩:=hf.form;have n:=U hf;clear ha hf;go_enter func20,ntmps20;go_wp2_with fail
 go_loopw [5] (fun iv wr=>∃j:Nat,j<=p.funcs.length/\iv=.int .i64 j/\RN p.funcs s j/\wr=w.alloc (qd d p.wa.length k f p.funcs.length l)) (fun iv _=>p.funcs.length-(intOf iv).toNat)
 case atStart=>exact⟨0,D1 _,rfl,RN.zero _ _,rfl⟩
 case round=>
  exact Oq
theorem IR(B:Nat)(p:Pr)(s:C6)(v0 v1:C8)(w:C7)(hB:B<=w.heap.size)(ha:gN B w v0 p.wa)(hf:gO B w v1 p.funcs):
 C3 70 #[.agg #[v0,v1],s] w (Cz ((jy (zb p.wa s)):Int) w):=by
 obtain⟨d,k,rfl,_⟩:=ha.form;obtain⟨f,l,rfl,_⟩:=hf.form;have n:=U ha;clear ha hf;go_enter func70,ntmps70;go_wp2_with fail
 go_loopw [5] (fun iv wr=>∃j:Nat,j<=p.wa.length/\iv=.int .i64 j/\RO p.wa s j/\wr=w.alloc (qd d p.wa.length k f p.funcs.length l)) (fun iv _=>p.wa.length-(intOf iv).toNat)
 case atStart=>exact⟨0,D1 _,rfl,RO.zero _ _,rfl⟩
 case round=>
  exact Ot
theorem mH(op:Int)(w:C7):C3 138 #[(op:Int)] w (C0 (.tuple #[(jZ op:Int),(vR op:Int)]) w):=by
 by_cases c:op=18\/op=19\/op=22\/op=16\/op=17\/op=12\/op=13\/op=14\/op=15
 .rcases c with rfl|rfl|rfl|rfl|rfl|rfl|rfl|rfl|rfl
  all_goals
   go_enter func138,ntmps138;go_wp2_with fail
   go_ret2
   exact⟨rfl,rfl⟩
 .have n1:(op == 18)=false:=by simp;omega
  have n2:(op == 19)=false:=Ut
  have d:(op == 22)=false:=Ut
  have e:(op == 16)=false:=Ut
  have f:(op == 17)=false:=Ut
  have g:(op == 12)=false:=Ut
  have i:(op == 13)=false:=Ut
  have j:(op == 14)=false:=Ut
  have k:(op == 15)=false:=Ut
  have a:jZ op=1:=by unfold jZ;rw[Dp O,Dp O]
  have b:vR op=1:=by unfold vR;rw[Dp O,Dp O,Dp O]
  rw[a,b];clear c a b;go_enter func138,ntmps138;go_wp2_with fail
  go_ret2
  exact⟨rfl,rfl⟩
theorem FD(op:Int)(w:C7):C3 117 #[(op:Int)] w (C0 (.tuple #[(jZ op:Int),(vR op:Int)]) w):=by
 go_enter func117,ntmps117;go_wp2_with fail
 all_goals go_ret2
 all_goals refine⟨?_,rfl⟩
 all_goals go_light
 all_goals(unfold jZ vR;simp_all;try omega)
def WF(l:List Pa)(s:C6)(k:Nat):Prop:=∀(i:Nat) x,k<=i->l[i]?=some x->x.name≠s
theorem oA{s:C6}:∀{l:List Pa},(∀(i:Nat) x,l[i]?=some x->x.name≠s)->zw l s=none
 |[],_=>rfl
 | y::r,h=>by
   rw[zw,oA (l:=r) fun i x a=>h (i+1) x Xd];exact Dp (h 0 y rfl)
theorem AL{s:C6}:∀{l:List Pa}{k:Nat}{x:Pa},WF l s (k+1)->l[k]?=some x->x.name=s->zw l s=some x.type
 |[],_,_,_,hk,_=>by simp at hk
 | y::r,0,x,h,hk,e=>by
   simp at hk;subst hk;rw[zw,oA (l:=r) fun i z a=>h (i+1) z O Xd];exact Dq e
 | y::r,k+1,x,h,hk,e=>by
   rw[zw,AL (l:=r) (k:=k) (fun i z _ a=>h (i+1) z O Xd) (by simpa using hk) e]
theorem WF.start(l:List Pa)(s:C6):WF l s l.length:=fun i x _ a=>Xq
theorem WF.step{l:List Pa}{x:Pa}(b:WF l s (k+1))(d:l[k]?=some x)(e:x.name≠s):WF l s k:=fun i z _ a=>by
 by_cases c:i=k
 .subst c
  rw[d]at a;injection a with a;exact a▸e
 .exact b i z O a
theorem WF.none{l:List Pa}(a:WF l s 0):zw l s=Option.none:=oA fun i x b=>a i x (D1 _) b
theorem NJ(B:Nat)(l:List Pa)(s:C6)(v:C8)(w:C7)(hB:B<=w.heap.size)(d:gU B w v l):
 C3 37 #[v,s] w (C0 (.tuple #[(((zw l s).getD 0):Int),.bool (zw l s).isSome]) w):=by
 obtain⟨A,c,rfl,_⟩:=d.form;have m:=U d;clear d;go_enter func37,ntmps37;go_wp2_with fail
 go_loopw [6] (fun iv wr=>∃k:Nat,k<=l.length/\iv=.int .i64 ((k:Int)-1)/\WF l s k/\wr=w) (fun iv _=>(intOf iv+1).toNat)
 case atStart=>exact⟨l.length,Dz _,by go_num,WF.start _ _,rfl⟩
 case round=>
  obtain⟨k,_,rfl,j,rfl⟩:=hrel;have b:=U j;clear j;rcases k with _|k
  .go_wp2_with fail
   go_ret2
   exact⟨by rw[b.o.none];rfl,rfl⟩
  .have e:((k+1 :Nat):Int)-1=(k:Int):=by omega
   rw[e];obtain⟨x,f⟩:∃e,l[k]?=some e:=⟨_,D2 O⟩
   obtain⟨g,o,rfl,_,_,_⟩:=m.o.cells f;have i:=U f;have p:g<wr.heap.size:=O
   clear f e;by_cases a:x.name=s
   .have n:=xw a
    go_wp2_with fail
    go_ret2
    exact⟨by rw[AL b.o i.o a];rfl,rfl⟩
   .have n:=xx a
    go_wp2_with fail;go_roundw
    case rel=>exact⟨k,O,by go_num,b.o.step i.o a,trivial⟩
    case measure=>simp[intOf]
def x9:List Pa->C6->Option Int
 |[],_=>none
 |x::r,s=>if x.name=s then some x.type else x9 r s
theorem r7(s:C6):∀a b:List Pa,x9 (a++b) s=match x9 a s with|some t=>some t|none=>x9 b s
 |[],b=>rfl
 | x::r,b=>by
   rw[Yv,x9,x9,r7 s r b];split<;>rfl
theorem yO(s:C6):∀l:List Pa,zw l s=x9 l.reverse s
 |[]=>rfl
 | x::r=>by
   rw[zw,yO s r,List.reverse_cons,r7];rfl
def hQ(w:C7)(C:Nat)(u:C8):Nat->C8->List Pa->Prop
 |B,v,[]=>v=u/\C<=B
 |B,v,x::r=>∃(g:Nat) (t:C8),v=.pointer (some ⟨g,0,none⟩)/\C<=g/\g<B/\w.heap[g]?=some (.cells #[.string x.name,.int .i64 x.type,t] 162 (0,0))/\hQ w C u g t r
theorem hQ.le:∀{l:List Pa}{B:Nat}{v:C8},hQ w C u B v l->C<=B
 |[],_,_,h=>h.2
 |_::_,_,_,⟨_,_,_,h1,h2,_⟩=>O
theorem hQ.up:∀{l:List Pa}{B a:Nat}{v:C8},hQ w C u B v l->B<=a->hQ w C u a v l
 |[],_,_,_,h,hB=>⟨h.1,by have:=h.2;omega⟩
 |_::_,_,_,_,⟨g,t,h0,h1,h2,h3⟩,hB=>⟨g,t,h0,h1,O,h3⟩
theorem hQ.keep:∀{l:List Pa}{B:Nat}{v:C8},hQ w C u B v l->(∀g,C<=g->g<B->w'.heap[g]?=w.heap[g]?)->hQ w' C u B v l
 |[],_,_,h,_=>h
 |_::r,B,_,⟨g,t,h0,h1,h2,h3,h6⟩,hc=>⟨g,t,h0,h1,h2,(hc g h1 h2).trans h3,h6.keep fun k a _=>hc k a O⟩
theorem hQ.below{l:List Pa}(a:hQ w C u B v l)(b:Below B w w'):hQ w' C u B v l:=a.keep fun g _ c=>b.block g c
theorem hQ.join{D:Nat}{t:C8}:∀{l:List Pa}{B:Nat}{v:C8}{m:List Pa},hQ w D t B v l->hQ w C u D t m->hQ w C u B v (l++m)
 |[],_,_,_,h,g=>by obtain⟨rfl,a⟩:=h;exact g.up a
 |_::r,_,_,_,⟨k,x,h0,h1,a,h3,h6⟩,g=>⟨k,x,h0,by have:=g.le;omega,a,h3,h6.join g⟩
theorem hQ.none(w:C7)(C B:Nat)(u:C8)(h:C<=B):hQ w C u B u []:=⟨rfl,h⟩
def i1(w:C7)(C:Nat)(u:C8):Prop:=u=.pointer none\/∃g a,u=.pointer (some ⟨g,0,none⟩)/\g<C/\w.heap[g]?=some (.cells a 162 (0,0))
def RP:C8->Nat
 |.pointer (some a)=>a.block+1
 |_=>0
theorem hQ.lower(c:i1 w C u){t:C8}{r:List Pa}(a:hQ w C u g t r):RP t<g+1:=by
 cases r with
 |nil=>
   obtain⟨rfl,b⟩:=a;rcases c with rfl|⟨k,_,rfl,_,_⟩
   .simp[RP]
   .simp[RP];omega
 |cons x r=>
   obtain⟨k,_,rfl,_,b,_⟩:=a;simp[RP];omega
theorem hQ.fin(f:i1 w C u){l:List Pa}(a:hQ w C u B v l):i1 w B v:=by
 cases l with
 |nil=>
   obtain⟨rfl,b⟩:=a;rcases f with rfl|⟨k,c,rfl,_,e⟩
   .exact .inl rfl
   .exact .inr ⟨k,c,rfl,O,e⟩
 |cons x r=>
   obtain⟨k,_,rfl,_,b,d,_⟩:=a;exact .inr ⟨k,_,rfl,b,d⟩
theorem i1.keep(a:i1 w C u)(e:∀g,g<C->(∃b,w.heap[g]?=some (.cells b 162 (0,0)))->w'.heap[g]?=w.heap[g]?):i1 w' C u:=by
 rcases a with a|⟨k,b,a,c,d⟩
 .exact .inl a
 .exact .inr ⟨k,b,a,c,(e k c ⟨b,d⟩).trans d⟩
theorem i1.nil(w:C7)(C:Nat):i1 w C (.pointer none):=.inl rfl
theorem mI{P:Program}(w:C7){c e:TypeId}{j:TypeInfo}{a b:Addr}{f g:Array C8}{o p:TypeId}(hp:P.underlying c=some (.pointer e))(n:P.info? e=some j)(m:j.size≠0)
 (l:a≠b) (ha:w.heap[a.block]?=some (.cells f o (0,0))) (k:w.heap[b.block]?=some (.cells g p (0,0))):
 (binOp .neq c (.pointer (some a)) (.pointer (some b))).run P w=.ok (.bool true) w:=by
 have i:∀d:Nat,(Op.equalIn (d+1) c (.pointer (some a)) (.pointer (some b))).run P w=.ok false w:=fun d=>by
  simp[Op.equalIn,run_underlying hp,sizeOf,typeInfo,n,m,run_sameAddr_other w l ha k]
 simp only[binOp];simp[Op.equal,Op.maxDepth,i 9999]
theorem K6:(Tryz.prog.info? 162).map (fun i=>(i.zero,i.size,i.bytes))=some (some (.agg #[.string ⟨#[]⟩,(0:Int),.pointer none]),3,32):=by kernel_rfl
theorem zci(w:C7){a b:Array C8}(i:g≠k)(c:w.heap[g]?=some (.cells a 162 (0,0)))(d:w.heap[k]?=some (.cells b 162 (0,0))):
 (binOp .neq 124 (.pointer (some ⟨g,0,none⟩)) (.pointer (some ⟨k,0,none⟩))).run Tryz.prog w=.ok (.bool true) w:=by
 obtain⟨_,f,_,j,_⟩:=info_parts K6;exact mI w underlying124 f (by rw[j];decide) (by intro e;injection e with e;exact i e) c d
theorem zcj(w:C7)(g:Nat):(binOp .neq 124 (.pointer (some ⟨g,0,none⟩)) (.pointer (some ⟨g,0,none⟩))).run Tryz.prog w=.ok (.bool false) w:=by
 obtain⟨_,a,_,_,_⟩:=info_parts K6;exact Lib.run_neq_ptr_same w _ underlying124 a
theorem IS{b c d:C8}{fr:Nat×Nat}(a:w.heap[g]?=some (.cells #[b,c,d] T fr)):w.cell? (g,0)=some b/\w.cell? (g,1)=some c/\w.cell? (g,2)=some d:=
 ⟨(Dv a 0).trans rfl,(Dv a 1).trans rfl,(Dv a 2).trans rfl⟩
def K7(w:C7)(B:Nat)(o:Option Int)(e:Ending):Prop:=match o with
 |some t=>∃g,e=.returned (.pointer (some ⟨g,0,none⟩))/\g<B/\w.cell? ⟨g,1,none⟩=some (.int .i64 t)
 |none=>e=.returned (.pointer none)
theorem kw(w:C7)(C B:Nat)(u v:C8)(l:List Pa)(s:C6)(hB:B<=w.heap.size)(F:i1 w C u)(y:hQ w C u B v l):
 C3 82 #[v,u,s] w fun e w'=>K7 w B (x9 l s) e/\w=w':=by
 have G:=U y;have c:=U F;clear y F;go_enter func82,ntmps82;go_wp2_with fail
 go_loopw [7] (fun iv wr=>∃r D,D<=B/\hQ w C u D iv r/\x9 r s=x9 l s/\wr=w) (fun iv _=>RP iv)
 case atStart=>exact⟨l,B,Dz _,G.o,rfl,rfl⟩
 case round=>
  obtain⟨r,D,hD,E,hf,rfl⟩:=hrel;have b:=U hf;clear hf;cases r with
  |nil=>
    obtain⟨rfl,_⟩:=E;rcases c.o with rfl|⟨a,q,rfl,A,d⟩
    .go_wp2_with fail
     go_ret;exact⟨by rw[<-b.o];rfl,rfl⟩
    .have L:=zcj wr a
     go_wp2_with fail;go_ret;exact⟨by rw[<-b.o];rfl,rfl⟩
  |cons x r=>
    obtain⟨g,t,rfl,_,_,j,z⟩:=E;obtain⟨_,J,_⟩:=IS j;have p:=U j;have i:=U z;have K:g<wr.heap.size:=O;clear z j;by_cases f:x.name=s
    .have H:=xw f
     have hp:K7 wr B (x9 l s) (.returned (.pointer (some ⟨g,0,none⟩))):=by
      rw[<-b.o,x9,Dq f];exact⟨g,rfl,O,J⟩
     have n:=U hp;clear hp;rcases c.o with rfl|⟨a,q,rfl,A,d⟩
     .go_wp2_with fail
      go_ret;exact⟨n.o,rfl⟩
     .have I:=zci wr (show g≠a by omega) p.o d
      go_wp2_with fail;go_ret;exact⟨n.o,rfl⟩
    .have H:=xx f
     have m:=U (i.o.lower c.o);have k:=U (show x9 r s=x9 l s by rw[<-b.o,x9,Dp f]);rcases c.o with rfl|⟨a,q,rfl,A,d⟩
     .go_wp2_with fail
      exact Ov
     .have I:=zci wr (show g≠a by omega) p.o d
      go_wp2_with fail;exact Ov
theorem i1.form(h:i1 w C u):∃p,u=.pointer p:=by
 rcases h with rfl|⟨g,_,rfl,_⟩
 .exact⟨_,rfl⟩
 .exact⟨_,rfl⟩
theorem RQ{l a:List Pa}{x:Pa}(b:l[j]?=some x):(l.take (j+1)).reverse++a=x::((l.take j).reverse++a):=by
 rw[Yt,b];simp
theorem yd(w:C7)(C D B:Nat)(u v:C8)(n l:List Pa)(x:C8)(hD:D<=w.heap.size)(hB:B<=w.heap.size)(f:i1 w C u)(hC:C<=w.heap.size)(d:hQ w C u D v n)(i:gU B w x l):
 C3 60 #[v,x] w fun e w'=>∃v',e=.returned v'/\hQ w' C u w'.heap.size v' (l.reverse++n)/\C2 w w':=by
 obtain⟨_,rfl⟩:=(d.fin f).form;obtain⟨A,c,rfl,_⟩:=i.form;have r:=U i;have s:=U (d.up hD);have t:=U f;clear d i f;go_enter func60,ntmps60;go_wp2_with fail
 go_loopw [0,9] (fun v iv wr=>∃j:Nat,j<=l.length/\iv=.int .i64 j/\hQ wr C u wr.heap.size v ((l.take j).reverse++n)/\C2 w wr) (fun _ iv _=>l.length-(intOf iv).toNat)
 case atStart=>exact⟨0,D1 _,rfl,by simpa using s.o,D5 _ _⟩
 case round=>
  obtain⟨j,_,rfl,k,a⟩:=hrel;have G:=a.size;have y:=U (t.o.keep (w':=wr) fun g E _=>a.block g O);obtain⟨p,rfl⟩:=(k.fin y.o).form;have q:=U k;clear k;by_cases F:j<l.length
  .obtain⟨b,m⟩:∃e,l[j]?=some e:=⟨_,D2 F⟩
   obtain⟨g,o,rfl,E,_,_⟩:=(r.o.below (a.mono hB) Zr).cells m;have z:=U m;have H:g<wr.heap.size:=O
   clear m;go_wp2_with fail;go_roundw
   case rel=>
    refine⟨j+1,O,by go_num,?_,(a.alloc G _).alloc Ut _⟩;rw[RQ z.o];refine⟨wr.heap.size+1,_,rfl,O,Uu,?_,(q.o.below ((Zb.alloc Zr _).alloc Uu _)).up O⟩;have:=Ds (wr.alloc (.cells #[b.name,(b.type:Int)] 95)) (.cells #[b.name,(b.type:Int),.pointer p] 162);simpa using this
   case measure=>simp[intOf];omega
  .go_wp2_with fail
   go_ret;refine⟨_,rfl,?_,a⟩;have:=q.o;rwa [Ye O]at this
def mJ(p:Pr):Prop:=∀f∈p.funcs,f.params.length<=8/\∀x∈f.params,x.type=1\/x.type=2
theorem IT(b:f5 p=true):mJ p:=fun f hf=>by
 unfold f5 at b;rw[D3,Y9,Y9]at b;have a:=b.2 f hf;unfold yo at a;simp only[D3,decide_eq_true_eq,Y9]at a;refine⟨a.1.1.2,fun x d=>?_⟩;have c:=a.1.2 x d;unfold ut hH at c;simp only[D3,Bool.or_eq_true,decide_eq_true_eq,beq_iff_eq]at c;exact c.2
def rG(B:Nat)(w:C7)(v:C8)(l:List Int):Prop:=vq v l.length (uv 1 (fun(t:Int) g o=>fK B w g o (.int .i64 t)) l)
theorem rG.below{a:Nat}(b:rG B w v l)(c:Below B w w')(hB:B<=a):rG a w' v l:=vq.imp b fun g o=>uv.imp (fun _ _ _ d=>d.below c hB) l g o
theorem rG.form(b:rG B w v l):∃A a,v=.slice A l.length a/\l.length<=281474976710656:=by
 obtain⟨A,a,d,c,_⟩:=b;exact⟨A,a,d,c⟩
theorem rG.cells{A:Option Addr}{b:Nat}(c:rG B w (.slice A n b) l){i:Nat}{t:Int}(a:l[i]?=some t):
 ∃(g o:Nat),A=some ⟨g,o,none⟩/\g<B/\w.cell? (g,o+i)=some (.int .i64 t):=by
 obtain⟨g,o,d,e⟩:=vq.elem c rfl Xq;have:=uv.at l g o i t e a;rw[Nat.mul_one]at this;exact⟨g,o,d,this.1,this.2⟩
theorem xX(B:Nat)(w:C7):rG B w (.slice none 0 0) []:=⟨none,0,rfl,D1 _,fun h=>absurd h Uu⟩
theorem CT(a:g<B):∀(l:List Int) (o:Nat),(∀j t,l[j]?=some t->w.cell? ⟨g,o+j,none⟩=some (.int .i64 t))->uv 1 (fun(t:Int) g o=>fK B w g o (.int .i64 t)) l g o
 |[],_,_=>trivial
 | t::r,o,h=>⟨⟨a,h 0 t rfl⟩,CT a r (o+1) fun j u b=>by
     rw[show o+1+j=o+(j+1)by omega]
     exact h (j+1) u Xb⟩
theorem zu{a:Nat}{size:Nat}{c:List C8}(b:w.ownsRow a e size v n c)(m:∀g,v.ownBlock=some g->w'.heap[g]?=w.heap[g]?):w'.ownsRow a e size v n c:=by
 refine⟨b.1,?_⟩;rcases b.2 with i|⟨g,d,f,rfl,j,k,l⟩
 .exact .inl i
 .exact .inr ⟨g,d,f,rfl,j,(m g rfl).trans k,l⟩
theorem jE{a:Nat}{size:Nat}{d:List C8}(b:w.ownsRow a e size v n d):∃A c,v=.slice A n c:=by
 rcases b.2 with⟨rfl,rfl⟩|⟨g,_,_,rfl,_⟩
 .exact⟨_,_,rfl⟩
 .exact⟨_,_,rfl⟩
theorem zQ{b:Nat}{size:Nat}{i:List C8}(c:w.ownsRow b e size v n i)(g:Nat)(a:v.ownBlock=some g):b<=g/\g<w.heap.size:=by
 rcases c.2 with⟨rfl,rfl⟩|⟨k,_,_,rfl,d,f,_⟩
 .cases a
 .injection a with a
  subst a;exact⟨d,(Array.getElem?_eq_some_iff.1 f).1⟩
theorem qX{a:Nat}{size:Nat}{c:List C8}(b:w.ownsRow a e size v n c)(o:Obj):(w.alloc o).ownsRow a e size v n c:=
 zu b fun g d=>D7 w o g (zQ b g d).2
theorem jV(w:C7)(a:List C8)(T:TypeId):∀j u,a[j]?=some u->(w.alloc (.cells a.toArray T)).cell? ((⟨w.heap.size,0,none⟩:Addr).add j)=some u:=fun j u b=>by
 rw[show(⟨w.heap.size,0,none⟩:Addr).add j=⟨w.heap.size,j,none⟩by unfold Addr.add;split<;>simp_all];exact(Dv (Ds w _) j).trans Xb
theorem jg(w:C7)(a:List C8)(T:TypeId)(n:Nat)(b:w.heap.size=n):∀j u,a[j]?=some u->(w.alloc (.cells a.toArray T)).cell? ((⟨n,0,none⟩:Addr).add j)=some u:=b▸jV w a T
theorem RR{l:List Pa}{x:Pa}(h:l[j]?=some x):((l.take j).map (·.type)).map (Value.int .i64)++[Value.int .i64 x.type]=((l.take (j+1)).map (·.type)).map (Value.int .i64):=by
 rw[Yt,h];simp
theorem uY{c:Nat}(i:w.ownsRow c e 1 v n (l.map (Value.int .i64)))(r:n=l.length)(q:l.length<=281474976710656):rG w.heap.size w v l:=by
 subst r;rcases i.2 with⟨rfl,k⟩|⟨g,d,f,rfl,_,b,_,_,_,m⟩
 .obtain rfl:l=[]:=Yq k
  exact xX _ _
 .have o:g<w.heap.size:=(Array.getElem?_eq_some_iff.1 b).1
  refine⟨_,d,rfl,q,fun _=>⟨g,0,rfl,CT o l 0 fun j t p=>?_⟩⟩;rw[Yz,Dv b]
  have a:(f.toList.take (l.length*1))[j]?=some (Value.int .i64 t):=by
   rw[m,Yn,p];rfl
  rw[Y8]at a;split at a
  .simpa using a
  .cases a
theorem CV{b:Nat}{fr:Nat×Nat}(a:w.heap[b]?=some (.cells (l.map (Value.int .i64)).toArray T fr))(hB:b<B)(e:l.length<=281474976710656)(c:Nat):rG B w (.slice (some ⟨b,0,none⟩) l.length c) l:=
 ⟨_,c,rfl,e,fun _=>⟨b,0,rfl,CT hB l 0 fun j t d=>by
   rw[Yz,Dv a]
   simp[d]⟩⟩
def jr(w:C7)(o:List Int×Int×Int)(e:Ending)(w':C7):Prop:=
 C2 w w'/\∃v,e=.returned (.tuple #[.agg #[v,(o.2.1:Int)],(o.2.2:Int)])/\rG w'.heap.size w' v o.1/\∀k,v.ownBlock=some k->w.heap.size<=k
def AM(p:Pr)(s:C6):List Int×Int×Int:=match jU p s with
 |some f=>(f.params.map (·.type),f.type,0)
 |none=>([],0,50)
theorem mK(B:Nat)(p:Pr)(s:C6)(z:Int)(a:jy (qQ p.funcs s)=z)(v0 v1:C8)(w:C7)(hB:B<=w.heap.size)(ha:gN B w v0 p.wa)(hf:gO B w v1 p.funcs):
 C3 58 #[.agg #[v0,v1],s] w (Cz (z:Int) w):=a▸NH B p s v0 v1 w hB ha hf
theorem kY:(Tryz.prog.info? 3).map (fun i=>(i.zero,i.size,i.bytes))=some (some (.int .i64 0),1,8):=by kernel_rfl
theorem zB{b:Nat}{o:Obj}(h:w.heap[b]?=some o):b<w.heap.size:=(Array.getElem?_eq_some_iff.1 h).1
theorem zG{b c:C8}(a:w.heap[g]?=some (.cells #[b,c] T (0,0))):(w.cell? (g,0)=some b/\w.cell? (g,1)=some c)/\∀o,w.frozen? ⟨g,o,none⟩=false:=
 ⟨⟨(Dv a 0).trans rfl,(Dv a 1).trans rfl⟩,fun o=>Kx⟩
theorem js{c d:C8}(e:W.heap[g]?=some (.cells #[c,d] T (0,0)))(a b:C8):((W.setCell (g,0) a).setCell (g,1) b).cell? (g,0)=some a/\((W.setCell (g,0) a).setCell (g,1) b).cell? (g,1)=some b:=
 (zG (D4 (D4 e a) b)).1
theorem RT{d e:C8}(f:W.heap[g]?=some (.cells #[d,e] T (0,0)))(a b:C8)(o:Obj):(((W.setCell (g,0) a).setCell (g,1) b).alloc o).cell? (g,0)=some a/\(((W.setCell (g,0) a).setCell (g,1) b).alloc o).cell? (g,1)=some b:=by
 have c:((W.setCell (g,0) a).setCell (g,1) b).heap[g]?=some (.cells #[a,b] T (0,0)):=D4 (D4 f a) b;exact(zG ((D7 _ o g (zB c)).trans c)).1
theorem qx(d:Below B w W)(a:B<=g)(b c:C8):Below B w ((W.setCell (g,0) b).setCell (g,1) c):=(d.setCell (p:=(g,0)) a _).setCell (p:=(g,1)) a _
abbrev K8(v:C8)(t:Int):Obj:=.cells #[v,(t:Int)] 195
theorem FE(B:Nat)(p:Pr)(s:C6)(v0 v1:C8)(w:C7)(hB:B<=w.heap.size)(ha:gN B w v0 p.wa)(hf:gO B w v1 p.funcs)(a:qQ p.funcs s=none):
 C3 139 #[.agg #[v0,v1],s] w (jr w ([],0,50)):=by
 obtain⟨d,m,rfl,_⟩:=ha.form;obtain⟨f,n,rfl,_⟩:=hf.form;have g:=U ha;have j:=U hf;have l:=U (show jy (qQ p.funcs s)= -1 by rw[a];rfl);clear ha hf a;go_enter func139,ntmps139
 go_wp2_with (go_at_call 58;(with_reducible refine(mK B p s _ l.o _ _ _ Ut (g.o.below ((Zb.alloc hB _).alloc Ut _) Zr) (j.o.below ((Zb.alloc hB _).alloc Ut _) Zr)).mono ?_);rintro e r ⟨rfl,b⟩
              have c:=U ((b.block (w.heap.size+1) Uu).trans (show _=some (K8 (.slice none 0 0) 0)by simpa using Ds (w.alloc (qd d p.wa.length m f p.funcs.length n)) (K8 (.slice none 0 0) 0)));obtain⟨⟨_,_⟩,_⟩:=zG c.o;have i:=C5 (C2 w r) (((Zb.alloc Zr _).alloc Uu _).trans (b.mono Ut))
              clear b)
 obtain⟨q,f1⟩:=js c.o (.slice none 0 0) (.int .i64 0);refine bodyPost_ret (v:=.tuple #[.agg #[(),(0:Int)],(50:Int)]) (by simp[results,results139,go_sem,q,f1]) rfl ?_;exact⟨qx i.o O _ _,_,rfl,xX _ _,fun k a=>Xe⟩
theorem CW(B:Nat)(p:Pr)(s:C6)(v0 v1:C8)(w:C7)(hB:B<=w.heap.size)(ha:gN B w v0 p.wa)(hf:gO B w v1 p.funcs){f:Fu}(c:qQ p.funcs s=some k)(y:p.funcs[k]?=some f)(_:f.params.length<=8):
 C3 139 #[.agg #[v0,v1],s] w (jr w (f.params.map (·.type),f.type,0)):=by
 obtain⟨D,L,rfl,_⟩:=ha.form;obtain⟨E,M,rfl,_⟩:=hf.form;obtain⟨aq,N,P,Q,R⟩:=info_parts kY;have n:=U (Dt N (Dt P (Dt Q R)));have V:=U ha;have G:=U hf;have Y:=U (show jy (qQ p.funcs s)=(k:Int)by rw[c];rfl);have Z:=U y;have aw:k<p.funcs.length:=(List.getElem?_eq_some_iff.1 y).1;clear ha hf c y N P Q R;go_enter func139,ntmps139
 go_wp2_with (go_at_call 58;(with_reducible refine(mK B p s _ Y.o _ _ _ Ut (V.o.below ((Zb.alloc hB _).alloc Ut _) Zr) (G.o.below ((Zb.alloc hB _).alloc Ut _) Zr)).mono ?_);rintro e a ⟨rfl,l⟩
              have I:=U ((l.block (w.heap.size+1) Uu).trans (show _=some (K8 (.slice none 0 0) 0)by simpa using Ds (w.alloc (qd D p.wa.length L E p.funcs.length M)) (K8 (.slice none 0 0) 0)));have ab:=U ((l.block w.heap.size Ut).trans (show _=some (qd D p.wa.length L E p.funcs.length M)from(D7 _ _ _ Uu).trans (Ds w _)));obtain⟨⟨_,_⟩,_⟩:=zG ab.o;obtain⟨⟨_,_⟩,_⟩:=zG I.o;have r:C2 w a:=((Zb.alloc Zr _).alloc Uu _).trans (l.mono Ut);have W:=U r;obtain⟨g,o,_,_,rfl,_,_,_,_,_,hp,ak⟩:=(G.o.below (r.mono hB) Zr).cells Z.o;obtain⟨_,_,rfl,_⟩:=hp.form;have ad:=U hp;have au:g<a.heap.size:=(by have:=r.size;omega);have aA:w.heap.size+1<a.heap.size:=(by have:=l.size;simp at this;omega);have az:w.heap.size<a.heap.size:=O;have ax:g≠a.heap.size:=O;have ay:a.heap.size≠g:=O
              clear l r hp ak)
 go_loopw [30] (fun iv wr=>∃(j:Nat) (v:C8),j<=f.params.length/\iv=.int .i64 j/\wr.heap[a.heap.size]?=some (K8 v f.type)/\wr.ownsRow (a.heap.size+1) 3 1 v j (((f.params.take j).map (·.type)).map (Value.int .i64))/\C2 a wr) (fun iv _=>f.params.length-(intOf iv).toNat)
 case atStart=>exact⟨0,_,D1 _,rfl,Ds _ _,Yp _ _ _ _,Zb.alloc Zr _⟩
 case round=>
  obtain⟨j,v,_,rfl,i,m,d⟩:=hrel;have ao:=d.size;have ap:=zB i;obtain⟨t,u,rfl⟩:=jE m;obtain⟨⟨_,_⟩,_⟩:=zG i;have ar:=U i;have q:=U m;have F:=U d;by_cases an:j<f.params.length
  .obtain⟨b,C⟩:∃e,f.params[j]?=some e:=⟨_,D2 an⟩
   obtain⟨aj,_,rfl,_,_,_⟩:=(ad.o.below (d.mono (show B<=a.heap.size by omega)) Zr).cells C;have ag:=U C;have av:aj<wr.heap.size:=O
   have ae:=U (qX (qX m (.cells #[b.name,(b.type:Int)] 95)) (.cells #[(b.type:Int)] 3));have aa:=U (jg (wr.alloc (.cells #[b.name,(b.type:Int)] 95)) [.int .i64 b.type] 3 (wr.heap.size+1) Uu);have af:=U ((D7 (wr.alloc (.cells #[b.name,(b.type:Int)] 95)) (.cells #[(b.type:Int)] 3) a.heap.size Ut).trans ((D7 wr (.cells #[b.name,(b.type:Int)] 95) a.heap.size ap).trans i));clear C i m d
   go_wp2_with (at_builtin;refine wpList_append_own _ rfl (.tmp 35) (.tmp 38) _ rfl (a.heap.size+1) 3 aq _ 1 8 underlying23 n.o.1 n.o.2.1 n.o.2.2.1 n.o.2.2.2 rfl O (.slice t j u) j _ rfl (by exact ae.o) ⟨wr.heap.size+1,0,none⟩ 1 1 [.int .i64 b.type] rfl rfl (by exact aa.o) Uz Uy O Ut ?_
                intro v1 S A x _;obtain⟨T,ah,rfl⟩:=jE A;have X:=U x;have H:=U A;have K:=U ((x.block a.heap.size Ut (fun e=>by have:=(zQ q.o _ e.symm).1;omega)).trans af.o);obtain⟨⟨_,_⟩,_⟩:=zG K.o
                clear A x)
   go_roundw
   case rel=>
    have al:C2 a S:=((F.o.alloc ao _).alloc Ut _).grown X.o Ut fun k c=>by have:=(zQ q.o _ c).1;omega
    refine⟨j+1,_,O,by go_num,D4 K.o (.slice T (j+1) ah),?_,al.setCell (p:=(a.heap.size,0)) Zr _⟩;rw[<-RR ag.o];exact zu H.o fun k c=>D0 S _ _ k (by have:=(zQ H.o _ c).1;show k≠a.heap.size;omega)
   case measure=>simp[intOf];omega
  .have am:j=f.params.length:=by omega
   subst am;have J:=U ((d.block (w.heap.size+1) O).trans I.o);obtain⟨⟨_,_⟩,_⟩:=zG J.o;have aB:w.heap.size+1<wr.heap.size:=O
   clear i m d;go_wp2_with fail;obtain⟨ai,f1⟩:=js J.o (.slice t f.params.length u) (.int .i64 f.type);refine bodyPost_ret (v:=.tuple #[.agg #[(t,f.params.length,u),(f.type:Int)],(0:Int)]) (by simp[results,results139,go_sem,ai,f1]) rfl ?_;refine⟨qx (W.o.trans (F.o.mono O)) O _ _,_,rfl,?_,fun k c=>by have:=(zQ q.o _ c).1;omega⟩;have z:=q.o;rw[Ye Zr]at z;refine uY (zu z fun k c=>?_) Uu Ut;have:=(zQ z _ c).1;exact(D0 _ _ _ k Ku).trans (D0 _ _ _ k Ku)
theorem CX(B:Nat)(p:Pr)(s:C6)(v0 v1:C8)(w:C7)(hB:B<=w.heap.size)(ha:gN B w v0 p.wa)(hf:gO B w v1 p.funcs)(hp:mJ p):
 C3 139 #[.agg #[v0,v1],s] w (jr w (AM p s)):=by
 cases hk:qQ p.funcs s with
 |none=>
   have e:AM p s=([],0,50):=by unfold AM jU;rw[hk];rfl
   rw[e];exact FE B p s v0 v1 w hB ha hf hk
 |some k=>
   obtain⟨f,a,_,_⟩:=xv hk;have e:AM p s=(f.params.map (·.type),f.type,0):=by unfold AM jU;rw[hk,Option.bind_some,a]
   rw[e];exact CW B p s v0 v1 w hB ha hf hk a (hp f (Yc a)).1
def qC(p:Pr)(tf:List Pa)(k op:Int)(s:C6):List Int×Int×Int:=
 if k=1\/k=8 then([],1,0)
 else if k=2 then([],2,0)
 else if k=3 then(match zw tf s with|some t=>([],t,0)|none=>([],0,50))
 else if k=4 then([jZ op],vR op,0)
 else if k=5 then([jZ op,jZ op],vR op,0)
 else if k=6 then(if(zb p.wa s).isSome then([1],1,0)else([],0,50))
 else AM p s
abbrev ym(k op n:Int)(s:C6)(A:Option Addr)(m c:Nat):Obj:=.cells #[(k:Int),(op:Int),(n:Int),s,(A,m,c)] 152
theorem mL(B:Nat)(p:Pr)(s:C6)(z:Int)(a:jy (zb p.wa s)=z)(v0 v1:C8)(w:C7)(hB:B<=w.heap.size)(ha:gN B w v0 p.wa)(hf:gO B w v1 p.funcs):
 C3 107 #[.agg #[v0,v1],s] w (Cz (z:Int) w):=a▸NI B p s v0 v1 w hB ha hf
abbrev RU(w:C7)(a b:Obj):C7:=((w.alloc a).alloc b).alloc (K8 (.slice none 0 0) 0)
theorem zj(hB:B<=w.heap.size)(a b:Obj):Below B w (RU w a b):=((Zb.alloc hB _).alloc Ut _).alloc Ut _
theorem xU(w:C7)(a b:Obj):(RU w a b).heap[w.heap.size+1+1]?=some (K8 (.slice none 0 0) 0):=by
 have:=Ds ((w.alloc a).alloc b) (K8 (.slice none 0 0) 0);simpa using this
theorem RV(b c:C8){o:Nat}(a:k≠g):((W.setCell (g,0) b).setCell (g,1) c).cell? (k,o)=W.cell? (k,o):=
 (D6 (w:=W) ((D0 _ _ _ k Xg).trans (D0 _ _ _ k Xg)))
def SlJ(g:Nat)(B:Nat)(w:C7)(v:C8)(l:List Int):Prop:=vq v l.length (uv 1 (fun(t:Int) k o=>k≠g/\fK B w k o (.int .i64 t)) l)
theorem rG.apart{W:C7}{L:Nat}(e:rG B w v l)(a:∀k,v.ownBlock=some k->L<=k)(_:g<L):SlJ g B w v l:=by
 obtain⟨A,c,rfl,b,hF⟩:=e;refine⟨A,c,rfl,b,fun hp=>?_⟩;obtain⟨k,o,rfl,d⟩:=hF hp;have i:L<=k:=a k rfl;refine⟨k,o,rfl,?_⟩;clear hF b hp a
 induction l generalizing o with
 |nil=>trivial
 |cons t r f=>exact⟨⟨O,d.1⟩,f (o+1) d.2⟩
theorem SlJ.back{b:Nat}{W:C7}(e:SlJ g B w v l)(hB:B<=b)(c d:C8):rG b ((w.setCell (g,0) c).setCell (g,1) d) v l:=
 vq.imp e fun _ _=>uv.imp (fun _ _ _ a=>⟨Yb a.2.1 hB,(RV c d a.1).trans a.2.2⟩) l _ _
set_option linter.unusedSectionVars false
section
variable (B C D:Nat)(p:Pr)(tf:List Pa)(op n:Int)(s:C6)(A:Option Addr)(m c:Nat)(v0 v1 v:C8)(w:C7)
variable (hB:B<=w.heap.size)(hC:C<=w.heap.size)(hD:D<=w.heap.size)(ha:gN B w v0 p.wa)(hf:gO B w v1 p.funcs)(hS:hQ w C (.pointer none) D v tf.reverse)(hp:mJ p)
include hB hC hD ha hf hS hp in
theorem IU:C3 126 #[.agg #[v0,v1],v,.agg #[(1:Int),(op:Int),(n:Int),s,(A,m,c)]] w (jr w ([],1,0)):=by
 exact Oo
include hB hC hD ha hf hS hp in
theorem FF:C3 126 #[.agg #[v0,v1],v,.agg #[(8:Int),(op:Int),(n:Int),s,(A,m,c)]] w (jr w ([],1,0)):=by
 exact Oo
include hB hC hD ha hf hS hp in
theorem CY:C3 126 #[.agg #[v0,v1],v,.agg #[(2:Int),(op:Int),(n:Int),s,(A,m,c)]] w (jr w ([],2,0)):=by
 obtain⟨a,d,rfl,_⟩:=ha.form;obtain⟨b,e,rfl,_⟩:=hf.form;obtain⟨q,rfl⟩:=(hS.fin (i1.nil _ _)).form;have g:=U ha;have i:=U hf;have l:=U hS;have j:=U hp;have r:=U (fun k=>zj (B:=B) hB (qd a p.wa.length d b p.funcs.length e) (ym k op n s A m c));have t:=U (fun k=>zj (B:=w.heap.size) Zr (qd a p.wa.length d b p.funcs.length e) (ym k op n s A m c));have o:=U (fun k=>xU w (qd a p.wa.length d b p.funcs.length e) (ym k op n s A m c));clear ha hf hS hp;go_enter func126,ntmps126;go_wp2_with fail;refine bodyPost_ret (v:=.tuple #[.agg #[(),(2:Int)],(0:Int)]) (by simp[results,results126,go_sem]) rfl ?_;exact⟨(((Zb.alloc Zr _).alloc Uu _).alloc Ut _),_,rfl,xX _ _,fun k f=>by cases f⟩
include hB hC hD ha hf hS hp in
theorem w6(i:zw tf s=none):C3 126 #[.agg #[v0,v1],v,.agg #[(3:Int),(op:Int),(n:Int),s,(A,m,c)]] w (jr w ([],0,50)):=by
 obtain⟨a,d,rfl,_⟩:=ha.form;obtain⟨b,f,rfl,_⟩:=hf.form;obtain⟨q,rfl⟩:=(hS.fin (i1.nil _ _)).form;have u:=U ha;have x:=U hf;have j:=U hS;have y:=U hp;have E:=U (fun k=>zj (B:=B) hB (qd a p.wa.length d b p.funcs.length f) (ym k op n s A m c));have F:=U (fun k=>zj (B:=w.heap.size) Zr (qd a p.wa.length d b p.funcs.length f) (ym k op n s A m c));have z:=U (fun k=>xU w (qd a p.wa.length d b p.funcs.length f) (ym k op n s A m c));have l:=U ((yO s tf).symm.trans i);clear ha hf hS hp i;go_enter func126,ntmps126
 go_wp2_with (go_at_call 82;(with_reducible refine(kw _ C D _ _ _ s Ut (i1.nil _ _) (j.o.below (zj hD (qd a p.wa.length d b p.funcs.length f) (ym 3 op n s A m c)))).mono ?_);rintro e _ ⟨g,rfl⟩
              have r:e=.returned (.pointer none):=by
               rw[l.o]at g;exact g
              clear g
              subst r)
 refine bodyPost_ret (v:=.tuple #[.agg #[(),(0:Int)],(50:Int)]) (by simp[results,results126,go_sem]) rfl ?_;exact⟨(((Zb.alloc Zr _).alloc Uu _).alloc Ut _),_,rfl,xX _ _,fun k t=>by cases t⟩
include hB hC hD ha hf hS hp in
theorem r8(t:Int)(j:zw tf s=some t):C3 126 #[.agg #[v0,v1],v,.agg #[(3:Int),(op:Int),(n:Int),s,(A,m,c)]] w (jr w ([],t,0)):=by
 obtain⟨a,d,rfl,_⟩:=ha.form;obtain⟨b,f,rfl,_⟩:=hf.form;obtain⟨q,rfl⟩:=(hS.fin (i1.nil _ _)).form;have y:=U ha;have z:=U hf;have l:=U hS;have E:=U hp;have G:=U (fun k=>zj (B:=B) hB (qd a p.wa.length d b p.funcs.length f) (ym k op n s A m c));have H:=U (fun k=>zj (B:=w.heap.size) Zr (qd a p.wa.length d b p.funcs.length f) (ym k op n s A m c));have F:=U (fun k=>xU w (qd a p.wa.length d b p.funcs.length f) (ym k op n s A m c));have r:=U ((yO s tf).symm.trans j);clear ha hf hS hp j;go_enter func126,ntmps126
 go_wp2_with (go_at_call 82;(with_reducible refine(kw _ C D _ _ _ s Ut (i1.nil _ _) (l.o.below (zj hD (qd a p.wa.length d b p.funcs.length f) (ym 3 op n s A m c)))).mono ?_);rintro e _ ⟨i,rfl⟩
              have u:∃g,e=.returned (.pointer (some ⟨g,0,none⟩))/\g<D/\(RU w (qd a p.wa.length d b p.funcs.length f) (ym 3 op n s A m c)).cell? ⟨g,1,none⟩=some (.int .i64 t):=by
               rw[r.o]at i;exact i
              clear i;obtain⟨g,rfl,_,_⟩:=u;have I:g<w.heap.size:=O
              have J:g≠w.heap.size+1+1:=O)
 refine bodyPost_ret (v:=.tuple #[.agg #[(),(t:Int)],(0:Int)]) (by simp[results,results126,go_sem]) rfl ?_;exact⟨(((Zb.alloc Zr _).alloc Uu _).alloc Ut _),_,rfl,xX _ _,fun k x=>by cases x⟩
include hB hC hD ha hf hS hp in
theorem IV:C3 126 #[.agg #[v0,v1],v,.agg #[(4:Int),(op:Int),(n:Int),s,(A,m,c)]] w (jr w ([jZ op],vR op,0)):=by
 obtain⟨a,d,rfl,_⟩:=ha.form;obtain⟨b,f,rfl,_⟩:=hf.form;obtain⟨q,rfl⟩:=(hS.fin (i1.nil _ _)).form;have i:=U ha;have j:=U hf;have r:=U hS;have o:=U hp;have u:=U (fun k=>zj (B:=B) hB (qd a p.wa.length d b p.funcs.length f) (ym k op n s A m c));have x:=U (fun k=>zj (B:=w.heap.size) Zr (qd a p.wa.length d b p.funcs.length f) (ym k op n s A m c));have t:=U (fun k=>xU w (qd a p.wa.length d b p.funcs.length f) (ym k op n s A m c));clear ha hf hS hp;go_enter func126,ntmps126;go_wp2_with (go_at_call 138;(with_reducible refine(mH op _).mono ?_);rintro e _ ⟨rfl,rfl⟩);refine bodyPost_ret (v:=.tuple #[.agg #[.slice (some ⟨w.heap.size+1+1+1,0,none⟩) 1 1,(vR op:Int)],(0:Int)]) (by simp[results,results126,go_sem]) rfl ?_;refine⟨(((Zb.alloc Zr _).alloc Uu _).alloc Ut _).alloc Ut _,_,rfl,?_,fun k g=>Hg⟩;exact CV (l:=[jZ op]) (T:=3) (fr:=(0,0)) (by have:=Ds (((w.alloc (qd a p.wa.length d b p.funcs.length f)).alloc (ym 4 op n s A m c)).alloc (K8 (.slice (some ⟨w.heap.size+1+1+1,0,none⟩) 1 1) (vR op))) (.cells #[(jZ op:Int)] 3);simpa using this) Uu Uu 1
include hB hC hD ha hf hS hp in
theorem IW:C3 126 #[.agg #[v0,v1],v,.agg #[(5:Int),(op:Int),(n:Int),s,(A,m,c)]] w (jr w ([jZ op,jZ op],vR op,0)):=by
 obtain⟨a,d,rfl,_⟩:=ha.form;obtain⟨b,f,rfl,_⟩:=hf.form;obtain⟨q,rfl⟩:=(hS.fin (i1.nil _ _)).form;have i:=U ha;have j:=U hf;have r:=U hS;have o:=U hp;have u:=U (fun k=>zj (B:=B) hB (qd a p.wa.length d b p.funcs.length f) (ym k op n s A m c));have x:=U (fun k=>zj (B:=w.heap.size) Zr (qd a p.wa.length d b p.funcs.length f) (ym k op n s A m c));have t:=U (fun k=>xU w (qd a p.wa.length d b p.funcs.length f) (ym k op n s A m c));clear ha hf hS hp;go_enter func126,ntmps126;go_wp2_with (go_at_call 138;(with_reducible refine(mH op _).mono ?_);rintro e _ ⟨rfl,rfl⟩);refine bodyPost_ret (v:=.tuple #[.agg #[.slice (some ⟨w.heap.size+1+1+1,0,none⟩) 2 2,(vR op:Int)],(0:Int)]) (by simp[results,results126,go_sem]) rfl ?_;refine⟨(((Zb.alloc Zr _).alloc Uu _).alloc Ut _).alloc Ut _,_,rfl,?_,fun k g=>Hg⟩;exact CV (l:=[jZ op,jZ op]) (T:=3) (fr:=(0,0)) (by have:=Ds (((w.alloc (qd a p.wa.length d b p.funcs.length f)).alloc (ym 5 op n s A m c)).alloc (K8 (.slice (some ⟨w.heap.size+1+1+1,0,none⟩) 2 2) (vR op))) (.cells #[(jZ op:Int),(jZ op:Int)] 3);simpa using this) Uu Uu 2
include hB hC hD ha hf hS hp in
theorem p5(b:zb p.wa s=none):C3 126 #[.agg #[v0,v1],v,.agg #[(6:Int),(op:Int),(n:Int),s,(A,m,c)]] w (jr w ([],0,50)):=by
 obtain⟨d,g,rfl,_⟩:=ha.form;obtain⟨f,i,rfl,_⟩:=hf.form;obtain⟨q,rfl⟩:=(hS.fin (i1.nil _ _)).form;have t:=U ha;have x:=U hf;have F:=U hS;have E:=U hp;have j:=U (fun k=>zj (B:=B) hB (qd d p.wa.length g f p.funcs.length i) (ym k op n s A m c));have C:=U (fun k=>zj (B:=w.heap.size) Zr (qd d p.wa.length g f p.funcs.length i) (ym k op n s A m c));have z:=U (fun k=>xU w (qd d p.wa.length g f p.funcs.length i) (ym k op n s A m c));have y:=U (show jy (zb p.wa s)= -1 by rw[b];rfl);clear ha hf hS hp b;go_enter func126,ntmps126
 go_wp2_with (go_at_call 107;(with_reducible refine(mL B p s _ y.o _ _ _ Ut (t.o.below (j.o 6) Zr) (x.o.below (j.o 6) Zr)).mono ?_);rintro e r ⟨rfl,a⟩
              have l:=U ((a.block (w.heap.size+1+1) Uu).trans (z.o 6));obtain⟨⟨_,_⟩,_⟩:=zG l.o;have G:w.heap.size+1+1<r.heap.size:=Kq;have u:=C5 (C2 w r) ((C.o 6).trans (a.mono Ut))
              clear a)
 obtain⟨D,f1⟩:=js l.o (.slice none 0 0) (.int .i64 (0));refine bodyPost_ret (v:=.tuple #[.agg #[(),(0:Int)],(50:Int)]) (by simp[results,results126,go_sem,D,f1]) rfl ?_;refine⟨qx u.o O _ _,_,rfl,?_,?_⟩
 .exact xX _ _
 .exact fun k b=>Vh
include hB hC hD ha hf hS hp in
theorem oB(k:Nat)(b:zb p.wa s=some k):C3 126 #[.agg #[v0,v1],v,.agg #[(6:Int),(op:Int),(n:Int),s,(A,m,c)]] w (jr w ([1],1,0)):=by
 obtain⟨f,i,rfl,_⟩:=ha.form;obtain⟨g,j,rfl,_⟩:=hf.form;obtain⟨q,rfl⟩:=(hS.fin (i1.nil _ _)).form;have u:=U ha;have y:=U hf;have G:=U hS;have F:=U hp;have r:=U (fun k=>zj (B:=B) hB (qd f p.wa.length i g p.funcs.length j) (ym k op n s A m c));have D:=U (fun k=>zj (B:=w.heap.size) Zr (qd f p.wa.length i g p.funcs.length j) (ym k op n s A m c));have C:=U (fun k=>xU w (qd f p.wa.length i g p.funcs.length j) (ym k op n s A m c));have z:=U (show jy (zb p.wa s)=(k:Int)by rw[b];rfl);clear ha hf hS hp b;go_enter func126,ntmps126
 go_wp2_with (go_at_call 107;(with_reducible refine(mL B p s _ z.o _ _ _ Ut (u.o.below (r.o 6) Zr) (y.o.below (r.o 6) Zr)).mono ?_);rintro e a ⟨rfl,d⟩
              have t:=U ((d.block (w.heap.size+1+1) Uu).trans (C.o 6));obtain⟨⟨_,_⟩,_⟩:=zG t.o;have H:w.heap.size+1+1<a.heap.size:=Kr;have x:=C5 (C2 w a) ((D.o 6).trans (d.mono Ut))
              clear d)
 obtain⟨E,f1⟩:=RT t.o (.slice (some ⟨a.heap.size,0,none⟩) 1 1) (.int .i64 (1)) (.cells #[(1:Int)] 3);refine bodyPost_ret (v:=.tuple #[.agg #[.slice (some ⟨a.heap.size,0,none⟩) 1 1,(1:Int)],(0:Int)]) (by simp[results,results126,go_sem,E,f1]) rfl ?_;refine⟨(qx x.o O _ _).alloc Ut _,_,rfl,?_,?_⟩
 .exact CV (l:=[1]) (T:=3) (fr:=(0,0)) (by have:=Ds ((a.setCell ⟨w.heap.size+1+1,0,none⟩ (.slice (some ⟨a.heap.size,0,none⟩) 1 1)).setCell ⟨w.heap.size+1+1,1,none⟩ (1:Int)) (.cells #[(1:Int)] 3);simpa using this) Uu Uu 1
 .exact fun k b=>by injection b with b;subst b;show w.heap.size<=a.heap.size;omega
include hB hC hD ha hf hS hp in
theorem FG:C3 126 #[.agg #[v0,v1],v,.agg #[(7:Int),(op:Int),(n:Int),s,(A,m,c)]] w (jr w (AM p s)):=by
 obtain⟨d,i,rfl,_⟩:=ha.form;obtain⟨f,j,rfl,_⟩:=hf.form;obtain⟨q,rfl⟩:=(hS.fin (i1.nil _ _)).form;have C:=U ha;have E:=U hf;have M:=U hS;have H:=U hp;have x:=U (fun k=>zj (B:=B) hB (qd d p.wa.length i f p.funcs.length j) (ym k op n s A m c));have J:=U (fun k=>zj (B:=w.heap.size) Zr (qd d p.wa.length i f p.funcs.length j) (ym k op n s A m c));have I:=U (fun k=>xU w (qd d p.wa.length i f p.funcs.length j) (ym k op n s A m c));clear ha hf hS hp;go_enter func126,ntmps126
 go_wp2_with (go_at_call 139;(with_reducible refine(CX B p s _ _ _ Ut (C.o.below (x.o 7) Zr) (E.o.below (x.o 7) Zr) H.o).mono ?_);rintro e b ⟨a,u,rfl,l,r⟩
              obtain⟨t,z,rfl,_⟩:=l.form;have F:=U (l.apart (W:=b) (g:=w.heap.size+1+1) r Uu);have y:=U ((a.block (w.heap.size+1+1) Uu).trans (I.o 7));obtain⟨⟨_,_⟩,_⟩:=zG y.o;have N:w.heap.size+1+1<b.heap.size:=Kq;have D:=C5 (C2 w b) ((J.o 7).trans (a.mono Ut));have G:=U r
              clear a l r)
 obtain⟨K,f1⟩:=js y.o (.slice t (AM p s).1.length z) (.int .i64 ((AM p s).2.1));refine bodyPost_ret (v:=.tuple #[.agg #[.slice t (AM p s).1.length z,(((AM p s).2.1):Int)],(((AM p s).2.2):Int)]) (by simp[results,results126,go_sem,K,f1]) rfl ?_;refine⟨qx D.o O _ _,_,rfl,?_,?_⟩
 .exact F.o.back (W:=b) Uu _ _
 .exact fun k L=>by have:=G.o k L;simp at this;omega
end
theorem CZ{n:Int}{td:C6}{tc:List Ex}(h:zm 4 op n td tc.length=true):∃a,tc=[a]:=by
 simp[zm]at h;exact List.length_eq_one_iff.1 h.2
theorem C9{n:Int}{td:C6}{tc:List Ex}(h:zm 5 op n td tc.length=true):∃a c,tc=[a,c]:=by
 simp[zm]at h
 match tc,h.2 with
 |[a,c],_=>exact⟨a,c,rfl⟩
theorem mM{n:Int}{td:C6}{tc:List Ex}(h:zm 6 op n td tc.length=true):∃a,tc=[a]:=by
 simp[zm]at h;exact List.length_eq_one_iff.1 h.2
theorem vC{k n:Int}{td:C6}{m:Nat}(a:zm k op n td m=true):k=1\/k=2\/k=3\/k=4\/k=5\/k=6\/k=7\/k=8:=by
 by_cases b:k=1\/k=2\/k=3\/k=4\/k=5\/k=6\/k=7\/k=8
 .exact b
 .exfalso
  unfold zm at a;rw[Dp O,Dp O,Dp O,Dp O,Dp O,Dp O,Dp O,Dp O]at a;cases a
def r9(a l:List Int)(j:Nat):Prop:=∀(i:Nat) t x,i<j->a[i]?=some t->l[i]?=some x->x=if t=0 then l.headD 0 else t
theorem r9.zero(b l:List Int):r9 b l 0:=fun i t x a=>absurd a O
theorem r9.succ{c:List Int}{t x:Int}(d:r9 c l j)(g:c[j]?=some t)(k:l[j]?=some x)(e:x=if t=0 then l.headD 0 else t):r9 c l (j+1):=fun i m n _ a b=>by
 by_cases f:i=j
 .subst f
  rw[g]at a;rw[k]at b;injection a with a;injection b with b;rw[<-a,<-b];exact e
 .exact d i m n O a b
theorem AN{tf:List Pa}:∀{tc:List Ex}{l:List Int},qJ p tf tc=.inr l->l.length=tc.length
 | [],l,h=>by
   rw[qJ]at h;injection h with h;subst h;rfl
 | e::r,l,h=>by
   rw[qJ]at h;split at h
   .cases h
   .cases hr:qJ p tf r with
    |inl x=>rw[hr]at h;cases h
    |inr _=>
      rw[hr]at h;injection h with h;subst h;rw[Du,Du,AN hr]
theorem oC{tf:List Pa}:∀(a b:List Ex) {l:List Int},qJ p tf a=.inr l->qJ p tf (a++b)=match qJ p tf b with | .inl x=>.inl x | .inr d=>.inr (l++d)
 | [],b,l,c=>by
   rw[qJ]at c;injection c with c;subst c;rw[Cn];cases qJ p tf b<;>rfl
 | e::r,b,l,c=>by
   rw[qJ]at c;split at c
   .cases c
   .rename_i f
    cases hr:qJ p tf r with
    |inl x=>rw[hr]at c;cases c
    |inr d=>
      rw[hr]at c;injection c with c;subst c;rw[Yv,qJ,Dp f,oC r b hr];cases qJ p tf b<;>rfl
theorem NK{tf:List Pa}(e:Ex):qJ p tf [e]=if(qF p tf e).2≠0 then .inl (qF p tf e).2 else .inr [(qF p tf e).1]:=by
 rw[qJ,qJ]
theorem zAb{tf:List Pa}{tc:List Ex}{e:Ex}(a:qJ p tf (tc.take j)=.inr l)(c:tc[j]?=some e)(b:(qF p tf e).2=0):qJ p tf (tc.take (j+1))=.inr (l++[(qF p tf e).1]):=by
 rw[Yt,c,Option.toList_some,oC _ _ a,NK,Dp Xb]
theorem i2{tf:List Pa}{tc:List Ex}{e:Ex}(b:qJ p tf (tc.take j)=.inr l)(f:tc[j]?=some e)(c:(qF p tf e).2≠0):qJ p tf tc=.inl (qF p tf e).2:=by
 obtain⟨i,g⟩:=List.getElem?_eq_some_iff.1 f;have d:tc.drop j=e::tc.drop (j+1):=by rw[List.drop_eq_getElem_cons i,g]
 have a:tc=tc.take j++(e::tc.drop (j+1)):=by rw[<-d,Cv]
 rw[a,oC _ _ b,qJ,Dq c]
section
variable {p:Pr}{tf:List Pa}{k op n:Int}{s:C6}{tc:List Ex}
theorem yY:qF p tf (.mk k op n s tc)=if kO p tf k s=false then(0,50)else if xS p k s tc.length=false then(0,51)else match qJ p tf tc with | .inl e=>(0,e) | .inr l=>jk p tf k op s l:=by
 rw[qF]<;>cases qJ p tf tc<;>rfl
theorem jd(hf:zm k op n s tc.length=true)(a:k=1\/k=2\/k=3\/k=8):tc=[]:=by
 refine Yq ?_;rcases a with rfl|rfl|rfl|rfl <;>(simp[zm]at hf;first|exact hf.2|(simp_all))
theorem RW(hf:zm k op n s tc.length=true)(a:(qC p tf k op s).2.2≠0):qF p tf (.mk k op n s tc)=(0,(qC p tf k op s).2.2):=by
 rw[yY];rcases vC hf with rfl|rfl|rfl|rfl|rfl|rfl|rfl|rfl
 .simp[qC]at a
 .simp[qC]at a
 .cases hv:zw tf s with
  |none=>simp[qC,kO,hv]
  |some t=>simp[qC,hv]at a
 .simp[qC]at a
 .simp[qC]at a
 .cases hv:zb p.wa s with
  |none=>simp[qC,kO,hv]
  |some t=>simp[qC,hv]at a
 .cases hv:qQ p.funcs s with
  |none=>simp[qC,kO,AM,jU,hv]
  |some j=>
    obtain⟨f,b,_⟩:=xv hv;simp[qC,AM,jU,hv,b]at a
 .simp[qC]at a
theorem NL(hf:zm k op n s tc.length=true)(d:(qC p tf k op s).2.2=0)(b:(qC p tf k op s).1.length≠tc.length):qF p tf (.mk k op n s tc)=(0,51):=by
 rw[yY];rcases vC hf with rfl|rfl|rfl|rfl|rfl|rfl|rfl|rfl
 .have:=jd hf Us;subst this;simp[qC]at b
 .have:=jd hf Us;subst this;simp[qC]at b
 .have:=jd hf Us
  subst this;cases hv:zw tf s with
  |none=>simp[qC,hv]at d
  |some t=>simp[qC,hv]at b
 .obtain⟨a,rfl⟩:=CZ hf;simp[qC]at b
 .obtain⟨a,c,rfl⟩:=C9 hf;simp[qC]at b
 .obtain⟨a,rfl⟩:=mM hf
  cases hv:zb p.wa s with
  |none=>simp[qC,hv]at d
  |some t=>simp[qC,hv]at b
 .cases hv:qQ p.funcs s with
  |none=>simp[qC,AM,jU,hv]at d
  |some j=>
    obtain⟨f,e,_⟩:=xv hv;simp[qC,AM,jU,hv,e]at b;simp[kO,xS,jU,hv,e];intro g;exact absurd g.symm b
 .have:=jd hf Us;subst this;simp[qC]at b
theorem K9(hf:zm k op n s tc.length=true)(a:(qC p tf k op s).2.2=0)(b:(qC p tf k op s).1.length=tc.length):qF p tf (.mk k op n s tc)=match qJ p tf tc with | .inl e=>(0,e) | .inr l=>jk p tf k op s l:=by
 rw[yY];rcases vC hf with rfl|rfl|rfl|rfl|rfl|rfl|rfl|rfl
 .simp[kO,xS]
 .simp[kO,xS]
 .cases hv:zw tf s with
  |none=>simp[qC,hv]at a
  |some t=>simp[kO,xS,hv]
 .simp[kO,xS]
 .simp[kO,xS]
 .cases hv:zb p.wa s with
  |none=>simp[qC,hv]at a
  |some t=>simp[kO,xS,hv]
 .cases hv:qQ p.funcs s with
  |none=>simp[qC,AM,jU,hv]at a
  |some j=>
    obtain⟨f,c,_⟩:=xv hv;simp[qC,AM,jU,hv,c]at b;simp[kO,xS,jU,hv,c,b]
 .simp[kO,xS]
theorem XQ(hf:zm k op n s tc.length=true)(a:(qC p tf k op s).2.2=0)(b:(qC p tf k op s).1.length=tc.length){e:Int}(ha:qJ p tf tc=.inl e):qF p tf (.mk k op n s tc)=(0,e):=by
 rw[K9 hf a b,ha]
theorem RX{b l:List Int}(f:l.length=b.length)(d:∀t∈b,t≠0):r9 b l b.length↔l=b:=by
 constructor
 .intro e
  refine List.ext_getElem f fun i c a=>?_;have:=e i b[i] l[i] a (D2 a) (D2 c);rwa [Dp (d _ (List.getElem_mem a))]at this
 .rintro rfl i t x _ c a
  rw[c]at a;injection a with a;rw[<-a,Dp (d t (Yc c))]
theorem RY(hp:mJ p)(hf:zm k op n s tc.length=true)(w:(qC p tf k op s).2.2=0)(B:(qC p tf k op s).1.length=tc.length){l:List Int}(ha:qJ p tf tc=.inr l):
 (r9 (qC p tf k op s).1 l (qC p tf k op s).1.length->qF p tf (.mk k op n s tc)=((qC p tf k op s).2.1,0))/\(¬r9 (qC p tf k op s).1 l (qC p tf k op s).1.length->qF p tf (.mk k op n s tc)=(0,51)):=by
 have A:=AN ha;rw[K9 hf w B,ha];dsimp only;rcases vC hf with rfl|rfl|rfl|rfl|rfl|rfl|rfl|rfl
 .refine⟨fun _=>by simp[qC,jk],fun o=>absurd (fun i t x m=>?_) o⟩
  simp[qC]at m
 .refine⟨fun _=>by simp[qC,jk],fun o=>absurd (fun i t x m=>?_) o⟩
  simp[qC]at m
 .cases hv:zw tf s with
  |none=>simp[qC,hv]at w
  |some t=>
    refine⟨fun _=>by simp[qC,jk,hv],fun o=>absurd (fun i t x m=>?_) o⟩;simp[qC,hv]at m
 .obtain⟨a,rfl⟩:=CZ hf
  match l,A with
  |[x],_=>
    refine⟨fun r=>?_,fun o=>?_⟩
    .have:=r 0 (jZ op) x Vu Vu rfl
     simp only[Cp]at this;simp only[qC,jk,List.all_cons,List.all_nil];by_cases b:jZ op=0
     .simp[b]
     .rw[Dp b]at this
      simp[this]
    .by_cases b:jZ op=0\/x=jZ op
     .exfalso
      refine o fun i t v m d g=>?_;simp[qC]at m d;subst m;simp at d g;subst d g;split
      .rfl
      .rename_i u;exact b.resolve_left u
     .simp[qC,jk,b]
 .obtain⟨a,c,rfl⟩:=C9 hf
  match l,A with
  |[x,v],_=>
    refine⟨fun r=>?_,fun o=>?_⟩
    .have d:=r 0 (jZ op) x Vu Vu rfl
     have g:=r 1 (jZ op) v Vu Vu rfl;simp only[Cp]at d g;simp only[qC,jk,List.all_cons,List.all_nil];by_cases b:jZ op=0
     .rw[Dq b]at g
      simp[b,g]
     .rw[Dp b]at d g
      simp[d,g]
    .by_cases b:(jZ op=0\/x=jZ op)/\(jZ op=0\/v=jZ op)/\v=x
     .exfalso
      refine o fun i t z m d g=>?_;simp[qC]at m d
      match i,m with
      |0,_=>
        simp at d g;subst d g;split
        .rfl
        .rename_i u;exact b.1.resolve_left u
      |1,_=>
        simp at d g;subst d g;split
        .simpa using b.2.2
        .rename_i u;exact b.2.1.resolve_left u
     .simp only[qC,jk,List.all_cons,List.all_nil,Cp]
      simp;intro D
      first
      |exact L fun y=>b ⟨D,y.1,y.2⟩
      |exact fun y G=>b ⟨D,y,G⟩
 .obtain⟨a,rfl⟩:=mM hf
  cases hv:zb p.wa s with
  |none=>simp[qC,hv]at w
  |some q=>
    match l,A with
    |[x],_=>
      refine⟨fun r=>?_,fun o=>?_⟩
      .have:=r 0 1 x Vs Vs rfl
       simp at this;simp[qC,jk,hv,this]
      .by_cases b:x=1
       .exfalso
        refine o fun i t v m d g=>?_;simp[qC,hv]at m d;subst m;simp at d g;subst d g;simpa using b
       .simp[jk,b]
 .cases hv:qQ p.funcs s with
  |none=>simp[qC,AM,jU,hv]at w
  |some j=>
    obtain⟨f,C,_⟩:=xv hv;have E:qC p tf 7 op s=(f.params.map (·.type),f.type,0):=(by simp[qC,AM,jU,hv,C]);have H:jk p tf 7 op s l=if l=f.params.map (·.type)then(f.type,0)else(0,51):=by simp[jk,jU,hv,C]
    rw[E]at B
    have I:∀t∈f.params.map (·.type),t≠0:=fun t J=>by
     obtain⟨x,K,rfl⟩:=List.mem_map.1 J;rcases(hp f (Yc C)).2 x K with e|e<;>rw[e]<;>decide
    have F:=RX (A.trans B.symm) I;rw[E,H];exact⟨fun r=>by rw[Dq (F.1 r)],fun o=>by rw[Dp fun e=>o (F.2 e)]⟩
 .refine⟨fun _=>by simp[qC,jk],fun o=>absurd (fun i t x m=>?_) o⟩
  simp[qC]at m
end
