import Derived.Test.YthcmenajdcbnnaaGreatDoorAtParBlk
set_option linter.unusedSimpArgs false
set_option linter.unusedVariables false
set_option maxRecDepth 100000
/- What a call leaves alone: all blocks but those of a set. A row that is cut. No program. -/
namespace Go.Proofs.YthcmenajdcbnnaaGreatDoor
open Lib (hid)
open Go.RowKit
structure OffX (X:Nat->Prop) (w w':World):Prop where
 os:w'.os=w.os
 tape:w'.tape=w.tape
 output:w'.output=w.output
 size:w.heap.size<=w'.heap.size
 block:∀k,k<w.heap.size->¬X k->w'.heap[k]? =w.heap[k]?
section
variable {X Y:Nat->Prop} {w w' w2:World}
theorem OffX.refl(X:Nat->Prop)(w:World):OffX X w w:=⟨rfl,rfl,rfl,Nat.le_refl _,fun _ _ _=>rfl⟩
theorem OffX.trans(a:OffX X w w')(g:OffX Y w' w2)(d:∀k,k<w.heap.size->Y k->X k):OffX X w w2:=
 ⟨g.os.trans a.os,g.tape.trans a.tape,g.output.trans a.output,Nat.le_trans a.size g.size,fun k b c=>(g.block k (Nat.lt_of_lt_of_le b a.size) fun e=>c (d k b e)).trans (a.block k b c)⟩
theorem OffX.mono(a:OffX X w w')(c:∀k,k<w.heap.size->X k->Y k):OffX Y w w':=⟨a.os,a.tape,a.output,a.size,fun k b e=>a.block k b fun d=>e (c k b d)⟩
theorem OffX.of_below(X:Nat->Prop)(a:Below w.heap.size w w'):OffX X w w':=⟨a.os,a.tape,a.output,a.size,fun k b _=>a.block k b⟩
theorem OffX.below(a:OffX X w w'){B:Nat}(c:B<=w.heap.size)(d:∀k,k<B->¬X k):Below B w w':=⟨a.os,a.tape,a.output,a.size,fun k b=>a.block k (Nat.lt_of_lt_of_le b c) (d k b)⟩
theorem OffX.set(w:World){g:Nat}(a:X g)(i:Nat)(u:Value):OffX X w (w.setCell ⟨g,i,none⟩ u):=
 ⟨rfl,rfl,rfl,Id,fun k _ b=>Below.heap_setCell w _ u k (fun e=>b (by have e:k=g:=e;rw[e];exact a))⟩
theorem OffX.alloc(X:Nat->Prop)(w:World)(o:Obj):OffX X w (w.alloc o):=OffX.of_below X (Zb.alloc Zr o)
theorem OffX.drew(X:Nat->Prop)(w:World):OffX X w w.drew:=OffX.of_below X Zb.drew
theorem OffX.grown{row:Option Nat}(a:w.grownBy w' row)(c:∀k,row=some k->X k):OffX X w w':=⟨a.os,a.tape,a.output,a.size,fun k b d=>a.block k b fun e=>d (c k e.symm)⟩
theorem OffX.at{k:Nat}{o:Obj}(b:OffX X w w')(c:¬X k)(a:w.heap[k]? =some o):w'.heap[k]? =some o:=(b.block k (Array.getElem?_eq_some_iff.1 a).1 c).trans a
end
def RowTo(L:Nat)(v v':Value):Prop:=v'.ownBlock=v.ownBlock\/∃g,v'.ownBlock=some g/\L<=g
theorem RowTo.refl(L:Nat)(v:Value):RowTo L v v:=.inl rfl
theorem RowTo.trans{L d:Nat}{u v x:Value}(a:RowTo L u v)(g:RowTo d v x)(e:L<=d):RowTo L u x:=by
 rcases g with g|⟨k,b,c⟩
 .rcases a with a|⟨k,b,c⟩
  .exact .inl (g.trans a)
  .exact .inr ⟨k,g.trans b,c⟩
 .exact .inr ⟨k,b,Nat.le_trans e c⟩
theorem RowTo.mono{L a:Nat}{u v:Value}(b:RowTo a u v)(c:L<=a):RowTo L u v:=(RowTo.refl L u).trans b c
theorem RowTo.old{L k:Nat}{u v:Value}(b:RowTo L u v)(e:k<L)(a:v.ownBlock=some k):u.ownBlock=some k:=by
 rcases b with b|⟨g,c,d⟩
 .rw[<-b];exact a
 .rw[c]at a;injection a with a;omega
theorem RowTo.of_at{w:World}{v v':Value}(a:xG w v v'){L:Nat}(d:L<=w.heap.size):RowTo L v v':=by
 rcases a with a|⟨g,b,c⟩
 .exact .inl a
 .exact .inr ⟨g,b,Nat.le_trans d c⟩
theorem own_cut{w:World}{B:Nat}{e:TypeId}{size n m c:Nat}{i:Option Addr}{l:List Value}(p:w.ownsRow B e size (.slice i n c) n l)(a:m<=n):w.ownsRow B e size (.slice i m c) m (l.take (m*size)):=by
 obtain⟨q,r⟩:=p;refine⟨by rw[List.length_take,q];exact Nat.min_eq_left (Nat.mul_le_mul_right _ a),?_⟩;rcases r with⟨h,k⟩|⟨g,z,o,h,k,t,u,v,x,y⟩
 .injection h with b j d
  subst b j d;exact .inl ⟨by rw[Nat.le_zero.1 a],Nat.le_zero.1 a⟩
 .injection h with b j d
  subst b d;refine .inr ⟨g,c,o,rfl,k,t,Nat.le_trans a u,v,x,?_⟩;rw[<-y,List.take_take,Nat.min_eq_left (Nat.mul_le_mul_right _ a)]
structure Cfg where
 b:Nat
 L:Nat
 B:Nat
 va:Value
 vf:Value
 vr:Value
 p:Pr
 rows:List Nat
def arV(x:Nat × List Int):Value:=.slice (some ⟨x.1,0,none⟩) x.2.length x.2.length
abbrev inO(l:List Int):Obj:=.cells (l.map (Value.int .i64)).toArray 3
def AllR64(l:List Int):Prop:=∀n∈l,i64R n
def SlC(B:Nat)(w:World)(v:Value)(l:List Int):Prop:=SlI B w v l/\∀a n c,v=.slice a n c->n<=c
theorem SlC.below{B a:Nat}{w w':World}{v:Value}{l:List Int}(b:SlC B w v l)(d:Below B w w')(c:B<=a):SlC a w' v l:=⟨b.1.below d c,b.2⟩
section
variable {c:Cfg} {w w':World} {vo vo':Value} {s s':RS}
end
section
variable {L:Nat} {w w':World} {f:Nat} {vv:Value} {vs:Vals} {how n:Int}
end
theorem own_off{w:World}{B C:Nat}{e t:TypeId}{n m k l:Nat}{v u:Value}{p q:List Value}(h:w.ownsRow B e n v k p)(g:w.ownsRow C t m u l q)(o:e≠t):∀j,v.ownBlock=some j->u.ownBlock≠some j:=by
 intro j c a;rcases h.2 with⟨rfl,_⟩|⟨g1,r,y,rfl,_,i,_⟩
 .cases c
 rcases g.2 with⟨rfl,_⟩|⟨d,x,z,rfl,_,b,_⟩
 .cases a
 injection c with c;injection a with a;subst c;have a:d=g1:=a;subst a;rw[i]at b;injection b with b;injection b with _ b;exact o b
theorem zI{W:World}{g:Nat}{b c d e h i j k l m:Value}{T:TypeId}(a:W.heap[g]? =some (.cells #[b,c,d,e,h,i,j,k,l,m] T (0,0))):
 (W.cell? ⟨g,0,none⟩=some b/\W.cell? ⟨g,1,none⟩=some c/\W.cell? ⟨g,2,none⟩=some d/\W.cell? ⟨g,3,none⟩=some e/\W.cell? ⟨g,4,none⟩=some h/\W.cell? ⟨g,5,none⟩=some i/\W.cell? ⟨g,6,none⟩=some j/\W.cell? ⟨g,7,none⟩=some k/\W.cell? ⟨g,8,none⟩=some l/\W.cell? ⟨g,9,none⟩=some m)/\∀o,W.frozen? ⟨g,o,none⟩=false:=by
 refine⟨⟨(Lib.cell_of_heap a 0).trans rfl,(Lib.cell_of_heap a 1).trans rfl,(Lib.cell_of_heap a 2).trans rfl,(Lib.cell_of_heap a 3).trans rfl,(Lib.cell_of_heap a 4).trans rfl,(Lib.cell_of_heap a 5).trans rfl,(Lib.cell_of_heap a 6).trans rfl,(Lib.cell_of_heap a 7).trans rfl,(Lib.cell_of_heap a 8).trans rfl,(Lib.cell_of_heap a 9).trans rfl⟩,fun o=>?_⟩;simp[World.frozen?,a]
theorem yS{w:World}{B:Nat}{e:TypeId}{size n:Nat}{v:Value}{d:List Value}(h:w.ownsRow B e size v n d)(t:0<n):
 ∃g a,v=.slice (some ⟨g,0,none⟩) n a/\B<=g/\g<w.heap.size/\n<=a/\(∀j u,d[j]? =some u->w.cell? ⟨g,j,none⟩=some u)/\∀o,w.frozen? ⟨g,o,none⟩=false:=by
 rcases h.2 with⟨_,p⟩|⟨g,a,m,rfl,i,c,k,q,r,l⟩
 .omega
 .refine⟨g,a,rfl,i,(Array.getElem?_eq_some_iff.1 c).1,k,fun j u b=>?_,fun o=>by simp[World.frozen?,c]⟩
  rw[Lib.cell_of_heap c];rw[<-l,List.getElem?_take]at b;split at b
  .simpa using b
  .cases b
theorem flat1{α:Type}{f:α->Value}:∀(l:List α) (k:Nat) (x:α),l[k]? =some x->(l.map f)[k]? =some (f x):=fun l k x a=>by rw[List.getElem?_map,a];rfl
end Go.Proofs.YthcmenajdcbnnaaGreatDoor
