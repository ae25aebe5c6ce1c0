import Derived.Test.YthcmenajdcbnnaaGreatDoorAtTyEnds
set_option linter.unusedSimpArgs false
set_option linter.unusedVariables false
set_option maxRecDepth 100000
/- Trees that lie in new blocks alone. -/
namespace Go.Proofs.YthcmenajdcbnnaaGreatDoor
open Lib (hid)
open Go.RowKit
def mask(p:Nat->Bool)(w:World):World:={ w with heap:=w.heap.mapIdx fun i o=>if p i then .cells #[] 0 (0,0)else o }
theorem mask_at(p:Nat->Bool)(w:World)(k:Nat):(mask p w).heap[k]? =(w.heap[k]?).map fun o=>if p k then .cells #[] 0 (0,0)else o:=by simp[mask,Array.getElem?_mapIdx]
theorem mask_in{p:Nat->Bool}{w:World}{k:Nat}(a:p k=false):(mask p w).heap[k]? =w.heap[k]?:=by
 rw[mask_at,a];cases w.heap[k]? <;> rfl
theorem jJ{p:Nat->Bool}{B:Nat}{w:World}{g o:Nat}{u:Value}(b:CellB B (mask p w) g o u):p g=false/\CellB B w g o u:=by
 cases hp:p g with
 | false=>exact⟨rfl,b.1,(World.cell?_of_block (w:=mask p w) (w':=w) (mask_in hp).symm).trans b.2⟩
 | true=>
   have a:=b.2;unfold World.cell? at a;rw[show(mask p w).heap[(⟨g,o,none⟩:Addr).block]? =(mask p w).heap[g]? from rfl,mask_at,hp]at a;cases hg:w.heap[g]? with
   | none=>rw[hg]at a;cases a
   | some c=>rw[hg]at a;simp at a
theorem jK{p:Nat->Bool}{B:Nat}{w:World}{g o:Nat}{u:Value}(b:p g=false)(a:CellB B w g o u):CellB B (mask p w) g o u:=⟨a.1,(World.cell?_of_block (w:=w) (w':=mask p w) (mask_in b)).trans a.2⟩
mutual
theorem RdE.imp{B b:Nat}{w w':World}(a:∀g o u,CellB B w g o u->CellB b w' g o u):∀(e:Ex) (g o:Nat),RdE B w e g o->RdE b w' e g o
 | .mk k op n name args,g,o,h=>by
   rw[RdE]at h ⊢;obtain⟨d,i,j,l,p,v,m,q⟩:=h;exact⟨a _ _ _ d,a _ _ _ i,a _ _ _ j,a _ _ _ l,p,v,a _ _ _ m,v9.imp q fun c r=>jd.imp a args c r⟩
theorem jd.imp{B a:Nat}{w w':World}(b:∀g o u,CellB B w g o u->CellB a w' g o u):∀(l:List Ex) (g o:Nat),jd B w l g o->jd a w' l g o
 | [],_,_,_=>by rw[jd];trivial
 | e::r,g,o,h=>by
   rw[jd]at h ⊢;exact⟨RdE.imp b e g o h.1,jd.imp b r g (o+5) h.2⟩
end
mutual
theorem RdS.imp{B d:Nat}{w w':World}(a:∀g o u,CellB B w g o u->CellB d w' g o u):∀(e:St) (g o:Nat),RdS B w e g o->RdS d w' e g o
 | .mk k ty name args thn els,g,o,h=>by
   rw[RdS]at h ⊢;obtain⟨i,j,l,⟨v,m,r⟩,⟨y,p,t⟩,⟨z,q,x⟩⟩:=h;exact⟨a _ _ _ i,a _ _ _ j,a _ _ _ l,⟨v,a _ _ _ m,v9.imp r fun b c=>jd.imp a args b c⟩,⟨y,a _ _ _ p,v9.imp t fun b c=>kK.imp a thn b c⟩,⟨z,a _ _ _ q,v9.imp x fun b c=>kK.imp a els b c⟩⟩
theorem kK.imp{B a:Nat}{w w':World}(b:∀g o u,CellB B w g o u->CellB a w' g o u):∀(l:List St) (g o:Nat),kK B w l g o->kK a w' l g o
 | [],_,_,_=>by rw[kK];trivial
 | e::r,g,o,h=>by
   rw[kK]at h ⊢;exact⟨RdS.imp b e g o h.1,kK.imp b r g (o+6) h.2⟩
end
theorem xL.imp{B a:Nat}{w w':World}(c:∀g o u,CellB B w g o u->CellB a w' g o u){v:Value}{l:List Ex}(b:xL B w v l):xL a w' v l:=v9.imp b fun g o=>jd.imp c l g o
theorem SlS.imp{B a:Nat}{w w':World}(c:∀g o u,CellB B w g o u->CellB a w' g o u){v:Value}{l:List St}(b:SlS B w v l):SlS a w' v l:=v9.imp b fun g o=>kK.imp c l g o
theorem ExV.imp{B b:Nat}{w w':World}(d:∀g o u,CellB B w g o u->CellB b w' g o u){a:Ex}{v:Value}(c:ExV B w a v):ExV b w' a v:=by
 obtain⟨u,i,e,h⟩:=c;exact⟨u,i,e,h.imp d⟩
def low(L:Nat):Nat->Bool:=fun k=>decide (k<L)
theorem kR{L k:Nat}:low L k=false↔L<=k:=by simp[low]
def zK(L:Nat)(w w':World):Prop:=w.heap.size<=w'.heap.size/\∀k,k<w.heap.size->L<=k->w'.heap[k]? =w.heap[k]?
theorem zK.cells{L b:Nat}{w w':World}(c:zK L w w')(h:b<=L):∀g o u,CellB w.heap.size (mask (low L) w) g o u->CellB w'.heap.size (mask (low b) w') g o u:=fun g o u a=>by
 obtain⟨e,a⟩:=jJ a;have d:=kR.1 e;exact jK (kR.2 I7) ⟨Nat.lt_of_lt_of_le a.1 c.1,(World.cell?_of_block (w:=w) (c.2 g a.1 d)).trans a.2⟩
theorem zK.refl(L:Nat)(w:World):zK L w w:=⟨Nat.le_refl _,fun _ _ _=>rfl⟩
theorem zK.trans{L:Nat}{w w' w2:World}(a:zK L w w')(g:zK L w' w2):zK L w w2:=⟨Nat.le_trans a.1 g.1,fun k b c=>(g.2 k (Nat.lt_of_lt_of_le b a.1) c).trans (a.2 k b c)⟩
theorem zK.of_off{b L:Nat}{w w':World}(a:OffB b w.heap.size w w')(d:b<L):zK L w w':=⟨a.size,fun k c e=>a.block c I7⟩
theorem zK.of_below{L:Nat}{w w':World}(a:Below w.heap.size w w'):zK L w w':=⟨a.size,fun k b _=>a.block k b⟩
theorem zK.set{L g:Nat}{w:World}(a:g<L)(i:Nat)(u:Value):zK L w (w.setCell ⟨g,i,none⟩ u):=⟨Id,fun k _ b=>Below.heap_setCell w _ u k (by show k≠g;omega)⟩
def jx(L:Nat)(w:World)(a:Ex)(v:Value):Prop:=ExV w.heap.size (mask (low L) w) a v
def jA(L:Nat)(w:World)(a:List Ex)(v:Value):Prop:=xL w.heap.size (mask (low L) w) v a
def ky(L:Nat)(w:World)(a:List St)(v:Value):Prop:=SlS w.heap.size (mask (low L) w) v a
theorem jx.keep{L b:Nat}{w w':World}{a:Ex}{v:Value}(c:jx L w a v)(k:zK L w w')(d:b<=L):jx b w' a v:=ExV.imp (k.cells d) c
theorem jA.keep{L b:Nat}{w w':World}{a:List Ex}{v:Value}(c:jA L w a v)(k:zK L w w')(d:b<=L):jA b w' a v:=xL.imp (k.cells d) c
theorem ky.keep{L b:Nat}{w w':World}{a:List St}{v:Value}(c:ky L w a v)(k:zK L w w')(d:b<=L):ky b w' a v:=SlS.imp (k.cells d) c
theorem jx.form{L:Nat}{w:World}{a:Ex}{v:Value}(d:jx L w a v):∃k o n s b m c,v=.agg #[.int .i64 k,.int .i64 o,.int .i64 n,.string s,.slice b m c]:=by
 obtain⟨u,g,_,e⟩:=d;obtain⟨b,c,rfl,_⟩:=e.form;exact⟨_,_,_,_,b,_,c,g⟩
theorem jA.form{L:Nat}{w:World}{a:List Ex}{v:Value}(d:jA L w a v):∃b c,v=.slice b a.length c/\a.length<=281474976710656:=xL.form d
theorem ky.form{L:Nat}{w:World}{a:List St}{v:Value}(d:ky L w a v):∃b c,v=.slice b a.length c/\a.length<=281474976710656:=SlS.form d
theorem qy.imp{α:Type}{x:PR α}{P Q:α->Prop}(b:qy x P)(k:∀a,P a->Q a):qy x Q:=by
 cases x with
 | ok a r=>exact k a b
 | bad r=>obtain⟨a,c⟩:=b;exact⟨a,k a c⟩
 | deep r=>obtain⟨a,c⟩:=b;exact⟨a,k a c⟩
 | out=>trivial
theorem qy.some{α:Type}{x:PR α}{P:α->Prop}(b:qy x P)(c:zG x):∃a,P a:=by
 cases x with
 | ok a r=>exact⟨a,b⟩
 | bad r=>exact b
 | deep r=>exact b
 | out=>exact absurd c id
theorem qy.bind{α β:Type}{x:PR α}{f:α->List Tok->PR β}{P:α->Prop}{Q:β->Prop}(b:qy x P)(k:∀a r,x=.ok a r->P a->qy (f a r) Q)(j:∀a,P a->∃c,Q c):qy (x.bind f) Q:=by
 cases x with
 | ok a r=>exact k a r rfl b
 | bad r=>obtain⟨a,d⟩:=b;exact j a d
 | deep r=>obtain⟨a,d⟩:=b;exact j a d
 | out=>trivial
theorem yd{s:List UInt8}{l:List Tok}{β:Type}{a:β}{Q:β->Prop}(b:Q a):qy ((zN s l).bind fun _ r=>.ok a r) Q:=by
 unfold zN;split
 .exact b
 .exact⟨a,b⟩
theorem jE{α β:Type}(x:PR α)(f:α->List Tok->PR β):(x.bind f).un=x.bind fun a r=>(f a r).un:=Q5
theorem bind_un{α β:Type}(x:PR α)(f:List Tok->PR β):x.un.bind (fun _ r=>f r)=x.bind fun _ r=>f r:=Q5
theorem zV{α β γ:Type}(x:PR α)(f:α->List Tok->PR β)(g:β->List Tok->PR γ):(x.bind f).bind g=x.bind fun a r=>(f a r).bind g:=Q5
theorem un_unit(x:PR Unit):x.un=x:=Q5
theorem ki{β:Type}(s:List UInt8)(l:List Tok)(a:β):((zN s l).bind fun _ r=>PR.ok a r).un=zN s l:=by unfold zN;split <;> rfl
theorem zu{α β:Type}{x:PR α}{f:α->List Tok->PR β}(a:zG (x.bind f)):zG x:=by cases x <;> first|trivial|exact a
theorem qX{L:Nat}{w:World}{x:PR Ex}{v:Value}(d:qy x fun a=>jx L w a v)(g:zG x):∃k o n s b m c,v=.agg #[.int .i64 k,.int .i64 o,.int .i64 n,.string s,.slice b m c]:=by
 obtain⟨a,e⟩:=d.some g;exact e.form
theorem got_forms{L:Nat}{w:World}{x:PR (List Ex)}{v:Value}(d:qy x fun a=>jA L w a v)(g:zG x):∃b m c,v=.slice b m c:=by
 obtain⟨a,e⟩:=d.some g;obtain⟨b,c,h,_⟩:=e.form;exact⟨b,_,c,h⟩
theorem zW.num{b:Nat}{V:Value}{all r:List Tok}{d dp:Bool}{w:World}(e:zW b V all r d dp w)(j:uO r=0):(⟨(hdT r).toArray⟩:ByteArray).size<=281474976710656/\kT (hdT r)=true/\jj 0 (hdT r)<9223372036854775808:=by
 obtain⟨_,⟨g,c,_,_,_,_,_,k⟩,l,i⟩:=e;obtain⟨t,q,rfl⟩:=List.exists_cons_of_ne_nil i.ne;have m:t∈all:=l.subset (List.mem_cons_self ..);obtain⟨a,h⟩:=k t m j;refine⟨h,a,?_⟩;have:=a;simp only[kT,Bool.and_eq_true,decide_eq_true_eq]at this;exact this.2
theorem jI.tok{b:Nat}{V:Value}{all:List Tok}{x:PR Unit}{w:World}(a:jI b V all x w):TokH b V all w:=by
 obtain⟨r,d,dp,c,_⟩:=a.box;exact c.2.1
theorem jI.move{b:Nat}{V:Value}{all:List Tok}{x:PR Unit}{w e W:World}(d:jI b V all x e)(i:TokH b V all w)(h:OffB b w.heap.size w W)(g:W.heap[b]? =e.heap[b]?):jI b V all x W:=by
 have c:∀{r bd dp},zW b V all r bd dp e->zW b V all r bd dp W:=fun c=>⟨g.trans c.1,i.off h,c.2.2⟩
 cases x with
 | ok a r=>exact c d
 | bad r=>exact c d
 | deep r=>exact c d
 | out=>exact d
theorem qd.after{b:Nat}{V:Value}{all:List Tok}{x y:PR Unit}{w c w2:World}(a:qd b V all w x c)(g:qd b V all c y w2):qd b V all w y w2:=⟨g.1,a.2.trans (g.2.mono a.2.size)⟩
theorem qd.below{b:Nat}{V:Value}{all:List Tok}{x:PR Unit}{w c w2:World}(a:qd b V all w x c)(g:Below c.heap.size c w2):qd b V all w x w2:=⟨a.1.below g,a.2.trans ((OffB.of_below g a.1.lt).mono a.2.size)⟩
theorem qd.alloc{b:Nat}{V:Value}{all:List Tok}{x:PR Unit}{w a:World}(c:qd b V all w x a)(o:Obj):qd b V all w x (a.alloc o):=c.below (Zb.alloc Zr o)
theorem qd.set{b g:Nat}{V:Value}{all:List Tok}{x:PR Unit}{w a:World}(c:qd b V all w x a)(h:TokH b V all w)(e:w.heap.size<=g)(j:g≠b)(i:Nat)(u:Value):qd b V all w x (a.setCell ⟨g,i,none⟩ u):=by
 have d:OffB b w.heap.size w (a.setCell ⟨g,i,none⟩ u):=c.2.setCell c.1.lt e i u;exact⟨c.1.move h d (Below.heap_setCell a _ u b (by show b≠g;omega)),d⟩
theorem qd.writ{b g:Nat}{V:Value}{all:List Tok}{x:PR Unit}{w l:World}(m:qd b V all w x l)(d:TokH b V all w)(c:w.heap.size<=g)(a:g≠b)(e h i j k:Value):qd b V all w x (writ l g e h i j k):=
 ((((m.set d c a 0 e).set d c a 1 h).set d c a 2 i).set d c a 3 j).set d c a 4 k
theorem zK.writ{L g:Nat}{w:World}(a:g<L)(b c d e h:Value):zK L w (writ w g b c d e h):=
 ((((zK.set a 0 b).trans (zK.set a 1 c)).trans (zK.set a 2 d)).trans (zK.set a 3 e)).trans (zK.set a 4 h)
theorem off_own{b B k:Nat}{w w':World}(a:OffB b B w w')(d:k<B)(c:k≠b):(∀o,w'.cell? ⟨k,o,none⟩=w.cell? ⟨k,o,none⟩)/\∀o,w'.frozen? ⟨k,o,none⟩=w.frozen? ⟨k,o,none⟩:=
 ⟨fun _=>a.cell d c,fun _=>World.frozen?_of_block (w:=w) (a.block d c)⟩
abbrev yB:Obj:=.cells #[.int .i64 0,.int .i64 0,.int .i64 0,.string ⟨#[]⟩,.slice none 0 0] 147
def ex0:Ex:=.mk 0 0 0 bE []
abbrev ex0V:Value:=.agg #[.int .i64 0,.int .i64 0,.int .i64 0,.string ⟨#[]⟩,.slice none 0 0]
theorem ex0_fr(L:Nat)(w:World):jx L w ex0 ex0V:=⟨_,rfl,IA,yp _ _⟩
theorem five{W:World}{g:Nat}{h i j k l:Value}{T:TypeId}{fr:Nat × Nat}(m:W.heap[g]? =some (.cells #[h,i,j,k,l] T fr))(a b c d c4:Value):
 (((((W.setCell ⟨g,0,none⟩ a).setCell ⟨g,1,none⟩ b).setCell ⟨g,2,none⟩ c).setCell ⟨g,3,none⟩ d).setCell ⟨g,4,none⟩ c4).cell? ⟨g,0,none⟩=some a/\
 (((((W.setCell ⟨g,0,none⟩ a).setCell ⟨g,1,none⟩ b).setCell ⟨g,2,none⟩ c).setCell ⟨g,3,none⟩ d).setCell ⟨g,4,none⟩ c4).cell? ⟨g,1,none⟩=some b/\
 (((((W.setCell ⟨g,0,none⟩ a).setCell ⟨g,1,none⟩ b).setCell ⟨g,2,none⟩ c).setCell ⟨g,3,none⟩ d).setCell ⟨g,4,none⟩ c4).cell? ⟨g,2,none⟩=some c/\
 (((((W.setCell ⟨g,0,none⟩ a).setCell ⟨g,1,none⟩ b).setCell ⟨g,2,none⟩ c).setCell ⟨g,3,none⟩ d).setCell ⟨g,4,none⟩ c4).cell? ⟨g,3,none⟩=some d/\
 (((((W.setCell ⟨g,0,none⟩ a).setCell ⟨g,1,none⟩ b).setCell ⟨g,2,none⟩ c).setCell ⟨g,3,none⟩ d).setCell ⟨g,4,none⟩ c4).cell? ⟨g,4,none⟩=some c4:=by
 have e:=writ_row m a b c d c4;exact⟨(Lib.cell_of_heap e 0).trans rfl,(Lib.cell_of_heap e 1).trans rfl,(Lib.cell_of_heap e 2).trans rfl,(Lib.cell_of_heap e 3).trans rfl,(Lib.cell_of_heap e 4).trans rfl⟩
theorem q9{b B k:Nat}{w w':World}{o:Obj}(a:OffB b B w w')(d:k<B)(c:k≠b)(e:w.heap[k]? =some o):w'.heap[k]? =some o:=(a.block d c).trans e
theorem qE{k:Nat}{w:World}{o:Obj}(a:w.heap[k]? =some o)(b:Obj):(w.alloc b).heap[k]? =some o:=(Below.heap_alloc w b k (Array.getElem?_eq_some_iff.1 a).1).trans a
def CE(b:Nat)(V:Value)(all:List Tok)(n:Nat)(lev d:Int):Prop:=∀(w:World) (x:PR Unit),jI b V all x w->zG (x.bind fun _ r=>pE n lev d r)->
 Calls Tryz.prog 126 #[.pointer (some ⟨b,0,none⟩),.int .i64 lev,.int .i64 d] w (qM b V all w (x.bind fun _ r=>pE n lev d r) (jx w.heap.size))
theorem CE.call{b:Nat}{V:Value}{all:List Tok}{n:Nat}{lev d:Int}(a:CE b V all n lev d){w:World}{x:PR Unit}(e:jI b V all x w)(c:zG (x.bind fun _ r=>pE n lev d r)):
 Calls Tryz.prog 126 #[.pointer (some ⟨b,0,none⟩),.int .i64 lev,.int .i64 d] w (qM b V all w (x.bind fun _ r=>pE n lev d r) (jx w.heap.size)):=a w x e c
def CA(b:Nat)(V:Value)(all:List Tok)(n:Nat)(d:Int):Prop:=∀(w:World) (x:PR Unit),jI b V all x w->zG (x.bind fun _ r=>pA n d r)->
 Calls Tryz.prog 150 #[.pointer (some ⟨b,0,none⟩),.int .i64 d] w (qM b V all w (x.bind fun _ r=>pA n d r) (jA w.heap.size))
theorem CA.call{b:Nat}{V:Value}{all:List Tok}{n:Nat}{d:Int}(a:CA b V all n d){w:World}{x:PR Unit}(e:jI b V all x w)(c:zG (x.bind fun _ r=>pA n d r)):
 Calls Tryz.prog 150 #[.pointer (some ⟨b,0,none⟩),.int .i64 d] w (qM b V all w (x.bind fun _ r=>pA n d r) (jA w.heap.size)):=a w x e c
def je(b:Nat)(V:Value)(all:List Tok)(w:World)(x:PR Unit)(W:World):Prop:=qd b V all w x W/\W.heap[w.heap.size]? =some yB/\TokH b V all w/\b<w.heap.size
section
variable {b:Nat} {V:Value} {all:List Tok} {w W W':World} {x y:PR Unit}
theorem je.start(a:jI b V all x w):je b V all w x (w.alloc yB):=
 ⟨⟨a.below (Zb.alloc Zr _),OffB.of_below (Zb.alloc Zr _) a.lt⟩,heap_alloc_new w yB,a.tok,a.lt⟩
theorem je.did(a:je b V all w x W):qd b V all w x W:=a.1
theorem je.st(a:je b V all w x W):jI b V all x W:=a.1.1
theorem je.size(a:je b V all w x W):w.heap.size<W.heap.size:=(Array.getElem?_eq_some_iff.1 a.2.1).1
theorem je.ne(a:je b V all w x W):w.heap.size≠b:=Ql
theorem je.step(a:je b V all w x W)(g:qd b V all W y W'):je b V all w y W':=⟨a.1.after g,q9 g.off a.size a.ne a.2.1,a.2.2⟩
theorem je.alloc(a:je b V all w x W)(o:Obj):je b V all w x (W.alloc o):=⟨a.1.alloc o,qE a.2.1 o,a.2.2⟩
theorem je.drewN(a:je b V all w x W)(n:Nat):je b V all w x (W.drewN n):=a.step ⟨a.st.drewN n,(OffB.refl b _ W).drewN n⟩
theorem je.own(c:je b V all w x W):(W.cell? ⟨w.heap.size,0,none⟩=some (.int .i64 0)/\W.cell? ⟨w.heap.size,1,none⟩=some (.int .i64 0)/\W.cell? ⟨w.heap.size,2,none⟩=some (.int .i64 0)/\
 W.cell? ⟨w.heap.size,3,none⟩=some (.string ⟨#[]⟩)/\W.cell? ⟨w.heap.size,4,none⟩=some (.slice none 0 0))/\∀o,W.frozen? ⟨w.heap.size,o,none⟩=false:=by
 have a:=c.2.1;refine⟨⟨(Lib.cell_of_heap a 0).trans rfl,(Lib.cell_of_heap a 1).trans rfl,(Lib.cell_of_heap a 2).trans rfl,(Lib.cell_of_heap a 3).trans rfl,(Lib.cell_of_heap a 4).trans rfl⟩,fun o=>?_⟩;simp[World.frozen?,a]
theorem je.read(g:je b V all w x W)(a c d e c4:Value):(((((W.setCell ⟨w.heap.size,0,none⟩ a).setCell ⟨w.heap.size,1,none⟩ c).setCell ⟨w.heap.size,2,none⟩ d).setCell ⟨w.heap.size,3,none⟩ e).setCell ⟨w.heap.size,4,none⟩ c4).cell? ⟨w.heap.size,0,none⟩=some a/\(((((W.setCell ⟨w.heap.size,0,none⟩ a).setCell ⟨w.heap.size,1,none⟩ c).setCell ⟨w.heap.size,2,none⟩ d).setCell ⟨w.heap.size,3,none⟩ e).setCell ⟨w.heap.size,4,none⟩ c4).cell? ⟨w.heap.size,1,none⟩=some c/\(((((W.setCell ⟨w.heap.size,0,none⟩ a).setCell ⟨w.heap.size,1,none⟩ c).setCell ⟨w.heap.size,2,none⟩ d).setCell ⟨w.heap.size,3,none⟩ e).setCell ⟨w.heap.size,4,none⟩ c4).cell? ⟨w.heap.size,2,none⟩=some d/\(((((W.setCell ⟨w.heap.size,0,none⟩ a).setCell ⟨w.heap.size,1,none⟩ c).setCell ⟨w.heap.size,2,none⟩ d).setCell ⟨w.heap.size,3,none⟩ e).setCell ⟨w.heap.size,4,none⟩ c4).cell? ⟨w.heap.size,3,none⟩=some e/\(((((W.setCell ⟨w.heap.size,0,none⟩ a).setCell ⟨w.heap.size,1,none⟩ c).setCell ⟨w.heap.size,2,none⟩ d).setCell ⟨w.heap.size,3,none⟩ e).setCell ⟨w.heap.size,4,none⟩ c4).cell? ⟨w.heap.size,4,none⟩=some c4:=five g.2.1 a c d e c4
theorem je.fin(i:je b V all w y W){X:PR Ex}(k:X.un=y){c d e g h:Value}(j:qy X fun a=>jx w.heap.size (writ W w.heap.size c d e g h) a (.agg #[c,d,e,g,h])):
 qM b V all w X (jx w.heap.size) (.returned (.agg #[c,d,e,g,h])) (writ W w.heap.size c d e g h):=
 ⟨_,rfl,k ▸ i.1.writ i.2.2.1 Zr i.ne _ _ _ _ _,j⟩
theorem jx.writ{L:Nat}{a:Ex}{v:Value}(h:jx L W a v)(i:w.heap.size<L)(b c d e g:Value):jx w.heap.size (writ W w.heap.size b c d e g) a v:=h.keep (zK.writ i _ _ _ _ _) I7
theorem jA.writ{L:Nat}{a:List Ex}{v:Value}(h:jA L W a v)(i:w.heap.size<L)(b c d e g:Value):jA w.heap.size (writ W w.heap.size b c d e g) a v:=h.keep (zK.writ i _ _ _ _ _) I7
theorem zK.did{L:Nat}(a:qd b V all W x W')(c:b<L):zK L W W':=zK.of_off a.off c
theorem vx(L:Nat)(W:World)(k o n:Int)(s:ByteArray)(a:i64R n):jx L W (.mk k o n s []) (.agg #[.int .i64 k,.int .i64 o,.int .i64 n,.string s,.slice none 0 0]):=⟨_,rfl,a,yp _ _⟩
theorem je.reada(h:je b V all w x W)(o:Obj)(a c d e c4:Value):((((((W.setCell ⟨w.heap.size,0,none⟩ a).setCell ⟨w.heap.size,1,none⟩ c).setCell ⟨w.heap.size,2,none⟩ d).setCell ⟨w.heap.size,3,none⟩ e).setCell ⟨w.heap.size,4,none⟩ c4).alloc o).cell? ⟨w.heap.size,0,none⟩=some a/\((((((W.setCell ⟨w.heap.size,0,none⟩ a).setCell ⟨w.heap.size,1,none⟩ c).setCell ⟨w.heap.size,2,none⟩ d).setCell ⟨w.heap.size,3,none⟩ e).setCell ⟨w.heap.size,4,none⟩ c4).alloc o).cell? ⟨w.heap.size,1,none⟩=some c/\((((((W.setCell ⟨w.heap.size,0,none⟩ a).setCell ⟨w.heap.size,1,none⟩ c).setCell ⟨w.heap.size,2,none⟩ d).setCell ⟨w.heap.size,3,none⟩ e).setCell ⟨w.heap.size,4,none⟩ c4).alloc o).cell? ⟨w.heap.size,2,none⟩=some d/\((((((W.setCell ⟨w.heap.size,0,none⟩ a).setCell ⟨w.heap.size,1,none⟩ c).setCell ⟨w.heap.size,2,none⟩ d).setCell ⟨w.heap.size,3,none⟩ e).setCell ⟨w.heap.size,4,none⟩ c4).alloc o).cell? ⟨w.heap.size,3,none⟩=some e/\((((((W.setCell ⟨w.heap.size,0,none⟩ a).setCell ⟨w.heap.size,1,none⟩ c).setCell ⟨w.heap.size,2,none⟩ d).setCell ⟨w.heap.size,3,none⟩ e).setCell ⟨w.heap.size,4,none⟩ c4).alloc o).cell? ⟨w.heap.size,4,none⟩=some c4:=by
 have g:=qE (writ_row h.2.1 a c d e c4) o;exact⟨(Lib.cell_of_heap g 0).trans rfl,(Lib.cell_of_heap g 1).trans rfl,(Lib.cell_of_heap g 2).trans rfl,(Lib.cell_of_heap g 3).trans rfl,(Lib.cell_of_heap g 4).trans rfl⟩
theorem je.fina(i:je b V all w y W){X:PR Ex}(k:X.un=y){o:Obj}{c d e g h:Value}(j:qy X fun a=>jx w.heap.size ((_root_.Go.Proofs.YthcmenajdcbnnaaGreatDoor.writ W w.heap.size c d e g h).alloc o) a (.agg #[c,d,e,g,h])):
 qM b V all w X (jx w.heap.size) (.returned (.agg #[c,d,e,g,h])) ((_root_.Go.Proofs.YthcmenajdcbnnaaGreatDoor.writ W w.heap.size c d e g h).alloc o):=
 ⟨_,rfl,k ▸ (i.1.writ i.2.2.1 Zr i.ne _ _ _ _ _).alloc o,j⟩
theorem exV_at{B:Nat}{w:World}{e:Ex}{k op n:Int}{s:ByteArray}{u:Value}(b:ExV B w e (.agg #[.int .i64 k,.int .i64 op,.int .i64 n,.string s,u])):∃args,e=.mk k op n s args/\i64R n/\xL B w u args:=by
 obtain⟨l,a,c,d⟩:=b;obtain⟨g,i,h,j,args⟩:=e;simp only[Value.agg.injEq,Array.mk.injEq,List.cons.injEq,Value.int.injEq,Value.string.injEq,true_and,and_true,Ex.kind,Ex.op,Ex.n,Ex.name]at a;obtain⟨rfl,rfl,rfl,rfl,rfl⟩:=a;exact⟨args,rfl,c,d⟩
theorem vG{L a g:Nat}{e:Ex}{k op n:Int}{s:ByteArray}{u:Value}{T:TypeId}(c:jx L W e (.agg #[.int .i64 k,.int .i64 op,.int .i64 n,.string s,u]))(h:a<=L)(i:a<=W.heap.size)(j:g=W.heap.size):
 jA a (W.alloc (.cells #[.int .i64 k,.int .i64 op,.int .i64 n,.string s,u] T)) [e] (.slice (some ⟨g,0,none⟩) 1 1):=by
 subst j;have d:=c.keep (zK.of_below (Zb.alloc Zr (.cells #[.int .i64 k,.int .i64 op,.int .i64 n,.string s,u] T))) h;obtain⟨args,rfl,l,m⟩:=exV_at d;exact slE_at1 (w:=mask (low a) _) (b:=W.heap.size) ((mask_in (kR.2 i)).trans (heap_alloc_new W _)) Ia l m
end
def W64(n:Nat):Int:=IntKind.wrap .i64 (n:Int)
theorem w64_succ(n:Nat):IntKind.wrap .i64 (W64 n+1)=W64 (n+1):=by
 unfold W64;simp only[IntKind.wrap,IntKind.bits,IntKind.signed];simp;omega
theorem vy{b B L:Nat}{w w':World}(a:OffB b B w w')(c:L<=B)(d:L<=b):Below L w w':=by
 have g:Below B (hole b w) (hole b w'):=a;exact⟨g.os,g.tape,g.output,a.size,fun k e=>a.block I7 I7⟩
theorem Env.off{B C b:Nat}{p:Pr}{vars:List Pa}{d e v:Value}{w w':World}(a:Env B C p vars d e v w)(c:OffB b w.heap.size w w')(hB:B<=b)(hC:b<C):Env B C p vars d e v w' where
 hB:=Nat.le_trans a.hB c.size
 hC:=Nat.le_trans a.hC c.size
 ha:=a.ha.below (vy c a.hB hB) Zr
 hf:=a.hf.below (vy c a.hB hB) Zr
 hs:=(a.hs.keep fun g i h=>c.block h I7).up c.size
theorem fin_off{b C:Nat}{u:Value}{w w':World}{c:Array Value}(d:Fin w C u)(i:OffB b w.heap.size w w')(k:C<=w.heap.size)(h:w.heap[b]? =some (.cells c 153 (0,0))):Fin w' C u:=
 d.keep fun g l ⟨j,a⟩=>i.block I7 fun e=>by
  subst e;rw[h]at a;injection a with a;injection a with _ a _;exact absurd a I8
theorem xX(p:Pr)(vars:List Pa)(a:Ex)(t:Int):kE p vars [a] t=kX p vars a t:=by
 rw[kE,kE];split <;> simp_all
theorem argsT_two(p:Pr)(vars:List Pa)(a c:Ex)(t:Int):kE p vars [a,c] t=if kX p vars a t=0 then kX p vars c t else kX p vars a t:=by
 rw[kE,xX];split <;> simp_all
theorem formS_ten{k h:Int}{name:ByteArray}{a b c:Nat}{g:Bool}(d:zr k h name a b c g=true):k=1\/k=2\/k=3\/k=4\/k=5\/k=6\/k=7\/k=8\/k=9\/k=10:=by
 by_cases e:k=1\/k=2\/k=3\/k=4\/k=5\/k=6\/k=7\/k=8\/k=9\/k=10
 .exact e
 .exfalso
  unfold zr at d;rw[if_neg I7,if_neg I7,if_neg I7,if_neg I7,if_neg I7,if_neg I7,if_neg I7,if_neg I7]at d;cases d
theorem own_stm{p:Pr}{vars:List Pa}{ft k g:Int}{name:ByteArray}{args:List Ex}{frm b c:Nat}{loop i:Bool}(e:zr k g name args.length b c i=true)(h:k≠1):kw p ft k g name args vars frm loop=jP p vars ft k g name args loop:=by
 rcases formS_ten e with rfl|rfl|rfl|rfl|rfl|rfl|rfl|rfl|rfl|rfl
 .exact absurd rfl h
 .obtain⟨a,rfl⟩:∃a,args=[a]:=by simp[zr]at e;exact List.length_eq_one_iff.1 e.1.1.2
  simp only[kw,jP,xX];cases kI vars name <;> simp
 .obtain⟨a,d,rfl⟩:∃a d,args=[a,d]:=by
   simp[zr]at e
   match args,e.1.1.2 with
   | [a,d],_=>exact⟨a,d,rfl⟩
  simp[kw,jP,argsT_two]
 .obtain⟨a,rfl⟩:∃a,args=[a]:=by simp[zr]at e;exact List.length_eq_one_iff.1 e.2
  simp[kw,jP,xX]
 .obtain⟨a,rfl⟩:∃a,args=[a]:=by simp[zr]at e;exact List.length_eq_one_iff.1 e.1.2
  simp[kw,jP,xX]
 .simp[kw,jP]
 .simp[kw,jP]
 .obtain⟨a,rfl⟩:∃a,args=[a]:=by simp[zr]at e;exact List.length_eq_one_iff.1 e.1.1.2
  simp[kw,jP,xX]
 .obtain⟨a,rfl⟩:∃a,args=[a]:=by simp[zr]at e;exact List.length_eq_one_iff.1 e.1.1.2
  simp[kw,jP,xX]
 .simp[kw,jP]
theorem own_let{p:Pr}{vars:List Pa}{ft d:Int}{name:ByteArray}{args:List Ex}{frm b c:Nat}{loop g:Bool}(e:zr 1 d name args.length b c g=true):
 kw p ft 1 d name args vars frm loop=if jP p vars ft 1 d name args loop≠0 then jP p vars ft 1 d name args loop else if(kI (vars.drop frm) name).isSome then 50 else 0:=by
 obtain⟨a,rfl⟩:∃a,args=[a]:=by simp[zr]at e;exact List.length_eq_one_iff.1 e.1.1.2
 simp[kw,jP,xX]
theorem own_cases{p:Pr}{vars:List Pa}{ft k a:Int}{name:ByteArray}{args:List Ex}{frm b c:Nat}{loop h:Bool}(g:zr k a name args.length b c h=true):
 kw p ft k a name args vars frm loop=if jP p vars ft k a name args loop≠0 then jP p vars ft k a name args loop else if k=1/\(kI (vars.drop frm) name).isSome=true then 50 else 0:=by
 by_cases d:k=1
 .subst d
  rw[own_let g];simp
 .rw[own_stm g d]
  by_cases e:jP p vars ft k a name args loop=0
  .simp[e,d]
  .simp[e]
def LsPost(b:Nat)(w:World)(a c:Value)(ft:Int)(R:Int × Nat)(e:Ending)(w':World):Prop:=
 e=.returned (.int .i64 R.1)/\OffB b w.heap.size w w'/\w'.heap[b]? =some (ckO a c ft (W64 R.2))
def LsC(m:Nat):Prop:=∀(B C b:Nat) (p:Pr) (vars:List Pa) (l:List St) (loop:Bool) (n:Nat) (R:Int × Nat) (d a c v:Value) (ft:Int) (w:World),
 stsOK l m=true->Few p->zf p ft l vars vars.length loop n=R->Env B C p vars a c v w->B<=b->b<C->w.heap[b]? =some (ckO a c ft (W64 n))->SlS B w d l->
 Calls Tryz.prog 88 #[.pointer (some ⟨b,0,none⟩),d,v,.bool loop] w (LsPost b w a c ft R)
theorem LsC.call{m:Nat}(e:LsC m){B C b:Nat}{p:Pr}{vars:List Pa}{l:List St}{loop:Bool}{n:Nat}{R:Int × Nat}{d a c v:Value}{ft:Int}{w:World}
 (g:stsOK l m=true) (h:Few p) (i:zf p ft l vars vars.length loop n=R) (j:Env B C p vars a c v w) (k:B<=b) (o:b<C) (q:w.heap[b]? =some (ckO a c ft (W64 n))) (r:SlS B w d l):
 Calls Tryz.prog 88 #[.pointer (some ⟨b,0,none⟩),d,v,.bool loop] w (LsPost b w a c ft R):=e B C b p vars l loop n R d a c v ft w g h i j k o q r
end Go.Proofs.YthcmenajdcbnnaaGreatDoor
