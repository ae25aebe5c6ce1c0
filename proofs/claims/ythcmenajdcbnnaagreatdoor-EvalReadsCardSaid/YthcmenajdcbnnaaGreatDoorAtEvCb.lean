import Derived.Test.YthcmenajdcbnnaaGreatDoorAtTyRk
set_option linter.unusedSimpArgs false
set_option linter.unusedVariables false
set_option maxRecDepth 100000
set_option maxHeartbeats 99000000
/- What the developers write for a function: an instruction more, places that are set. -/
namespace Go.Proofs.YthcmenajdcbnnaaGreatDoor
open Lib (hid)
open Go.RowKit Go.Maps
structure WSt where
 C:List Ins
 sc:Nat
 lst:Nat
 lsc:Nat
 bk:List Nat
abbrev Q4:=Value × Value × Value × Value
def q4(q:Q4):List Value:=[q.1,q.2.1,q.2.2.1,q.2.2.2]
abbrev wrO(vc vb:Value)(s:WSt):Obj:=.cells #[vc,.int .i64 (s.sc:Int),.int .i64 (s.lst:Int),.int .i64 (s.lsc:Int),vb] 160
abbrev bkV(l:List Nat):List Value:=l.map fun(n:Nat)=>Value.int .i64 (n:Int)
structure WrS (L B b:Nat) (w:World) (vc vb:Value) (s:WSt) (qs:List Q4):Prop where
 hB:B<=L
 hL:L<=b
 box:w.heap[b]? =some (wrO vc vb s)
 row:w.ownsRow L 172 4 vc s.C.length (qs.flatMap q4)
 ql:qs.length=s.C.length
 qi:∀(i:Nat) (x:Ins) (q:Q4),s.C[i]? =some x->qs[i]? =some q->InsP B w x q.1 q.2.1 q.2.2.1 q.2.2.2
 brow:w.ownsRow L 3 1 vb s.bk.length (bkV s.bk)
def WT(b:Nat)(vc vb:Value)(k:Nat):Prop:=k=b\/vc.ownBlock=some k\/vb.ownBlock=some k
theorem WT.old{b L:Nat}{vc vb e d:Value}(f:RowTo L vc e)(g:RowTo L vb d){k:Nat}(c:k<L)(a:WT b e d k):WT b vc vb k:=by
 rcases a with a|a|a
 .exact .inl a
 .exact .inr (.inl (f.old c a))
 .exact .inr (.inr (g.old c a))
section
variable {L B b:Nat} {w w':World} {vc vb:Value} {s:WSt} {qs:List Q4}
theorem WrS.lt(h:WrS L B b w vc vb s qs):b<w.heap.size:=zB h.box
theorem WrS.tl(c:WrS L B b w vc vb s qs){k:Nat}(a:WT b vc vb k):L<=k/\k<w.heap.size:=by
 rcases a with rfl|a|a
 .exact⟨c.hL,c.lt⟩
 .exact⟨(qP c.row k a).2,(qP c.row k a).1⟩
 .exact⟨(qP c.brow k a).2,(qP c.brow k a).1⟩
theorem WrS.below(a:WrS L B b w vc vb s qs)(c:OffX (WT b vc vb) w w'):Below L w w':=c.below (by have:=a.hL;have:=a.lt;omega) fun k e d=>by have:=(a.tl d).1;omega
theorem WrS.cb(h:WrS L B b w vc vb s qs):vc.ownBlock≠some b:=vu h.row (show Is w b 160 #[vc,.int .i64 (s.sc:Int),.int .i64 (s.lst:Int),.int .i64 (s.lsc:Int),vb]from h.box) I8
theorem WrS.bb(h:WrS L B b w vc vb s qs):vb.ownBlock≠some b:=vu h.brow (show Is w b 160 #[vc,.int .i64 (s.sc:Int),.int .i64 (s.lst:Int),.int .i64 (s.lsc:Int),vb]from h.box) I8
theorem WrS.bc(a:WrS L B b w vc vb s qs):∀k,vc.ownBlock=some k->vb.ownBlock≠some k:=fun k c=>own_off a.row a.brow I8 k c
theorem WrS.keepB(a:WrS L B b w vc vb s qs)(c:Below w.heap.size w w'):WrS L B b w' vc vb s qs:=
 ⟨a.hB,a.hL,(c.block b a.lt).trans a.box,qR a.row c Zr,a.ql,fun i x q e d=>(a.qi i x q e d).below (c.mono Qd) Zr,qR a.brow c Zr⟩
end
theorem flat4:∀(l:List Q4) (i:Nat) (q:Q4),l[i]? =some q->∀j u,(q4 q)[j]? =some u->(l.flatMap q4)[i*4+j]? =some u
 | [],_,_,h,_,_,_=>IQ
 | y::r,0,x,h,j,u,hu=>by
   simp at h;subst h;rw[List.flatMap_cons,Nat.zero_mul,Nat.zero_add,List.getElem?_append_left (List.getElem?_eq_some_iff.1 hu).1];exact hu
 | y::r,i+1,x,h,j,u,hu=>by
   have:=flat4 r i x IM j u hu;rw[List.flatMap_cons,List.getElem?_append_right (by show 4<=_;omega),show(i+1)*4+j-(q4 y).length=i*4+j by show(i+1)*4+j-4=_;omega];exact this
theorem flat4_set:∀(l:List Q4) (i:Nat) (q:Q4) (v:Value),l[i]? =some q->(l.flatMap q4).set (i*4+1) v=(l.set i (q.1,v,q.2.2.1,q.2.2.2)).flatMap q4
 | [],_,_,_,h=>IQ
 | y::r,0,x,v,h=>by
   simp at h;subst h;rfl
 | y::r,i+1,x,v,h=>by
   have a:=flat4_set r i x v IM;rw[List.flatMap_cons,List.set_cons_succ,List.flatMap_cons,<-a,List.set_append_right _ _ (by show 4<=_;omega)];show _++List.set _ ((i+1)*4+1-4) _=_;rw[show(i+1)*4+1-4=i*4+1 by omega]
theorem flat4_len(l:List Q4):(l.flatMap q4).length=l.length*4:=by
 induction l with
 | nil=>rfl
 | cons x r a=>rw[List.flatMap_cons,List.length_append,a,List.length_cons];show 4+_=_;omega
def yi(L B b:Nat)(w:World)(vc vb:Value)(s:WSt)(v:Value)(e:Ending)(w':World):Prop:=
 ∃c a qs,e=.returned v/\WrS L B b w' c a s qs/\OffX (WT b vc vb) w w'/\RowTo w.heap.size vc c/\RowTo w.heap.size vb a
theorem ins_info:(Tryz.prog.info? 172).map (fun i=>(i.zero,i.size,i.bytes))=some (some (.agg #[.int .i64 0,.int .i64 0,.pointer none,.pointer none]),4,32):=by kernel_rfl
theorem WrS.emit{L B b:Nat}{w W w8:World}{vc vb vc':Value}{s:WSt}{qs:List Q4}(a:WrS L B b w vc vb s qs)(l:Below w.heap.size w W)(n:W.grownBy w8 vc.ownBlock)(E:xG W vc vc'){q:Q4}(t:w8.ownsRow L 172 4 vc' (s.C.length+1) (qs.flatMap q4++q4 q)){x:Ins}(j:InsP B w x q.1 q.2.1 q.2.2.1 q.2.2.2):
 w8.heap[b]? =some (wrO vc vb s)/\WrS L B b (w8.setCell ⟨b,0,none⟩ vc') vc' vb { s with C:=s.C++[x] } (qs++[q])/\OffX (WT b vc vb) w (w8.setCell ⟨b,0,none⟩ vc')/\RowTo w.heap.size vc vc':=by
 have u:=l.size;have m:w8.heap[b]? =some (wrO vc vb s):=((n.block b (Nat.lt_of_lt_of_le a.lt u) fun e=>a.cb e.symm).trans (l.block b a.lt)).trans a.box;have z:vc'.ownBlock≠some b:=vu t (show Is w8 b 160 #[vc,.int .i64 (s.sc:Int),.int .i64 (s.lst:Int),.int .i64 (s.lsc:Int),vb]from m) I8
 have r:OffX (WT b vc vb) w (w8.setCell ⟨b,0,none⟩ vc'):=
  ((OffX.of_below (WT b vc vb) l).trans (OffX.grown (X:=WT b vc vb) n fun k d=>.inr (.inl d)) fun _ _ j=>j).trans (OffX.set (X:=WT b vc vb) w8 (.inl rfl) 0 vc') fun _ _ j=>j
 have o:=(a.below r).mono a.hB;refine⟨m,⟨a.hB,a.hL,Lib.heap_setCell_same m _,?_,by simp[a.ql],fun i y p c f=>?_,?_⟩,r,RowTo.of_at E u⟩
 .show(w8.setCell _ _).ownsRow L _ 4 vc' (s.C++[x]).length ((qs++[q]).flatMap q4)
  rw[List.length_append,List.flatMap_append];have e:[q].flatMap q4=q4 q:=Ia
  rw[e];exact zm t fun k d=>Below.heap_setCell w8 _ _ k (fun e=>z Ut)
 .have c:(s.C++[x])[i]? =some y:=c
  rcases Nat.lt_or_ge i s.C.length with g|g
  .rw[List.getElem?_append_left g]at c
   rw[List.getElem?_append_left (by rw[a.ql];exact g)]at f;exact(a.qi i y p c f).below o Zr
  .rw[List.getElem?_append_right g]at c
   rw[List.getElem?_append_right (by rw[a.ql];exact g),a.ql]at f
   have v:i-s.C.length=0:=by
    have:=(List.getElem?_eq_some_iff.1 c).1;simp at this;omega
   rw[v]at c f;simp at c f;subst c f;exact j.below o Zr
 .refine zm a.brow fun k d=>?_
  have D:=(qP a.brow k d).1;have A:k≠b:=fun e=>a.bb (e ▸ d)
  exact(Below.heap_setCell w8 _ _ k A).trans ((n.block k I7 fun e=>a.bc k e.symm d).trans (l.block k D))
def EPst(L B b:Nat)(w:World)(vc vb:Value)(s:WSt)(v:Value)(e:Ending)(w':World):Prop:=
 ∃a qs,e=.returned v/\WrS L B b w' a vb s qs/\OffX (WT b vc vb) w w'/\RowTo w.heap.size vc a
theorem wemit_at{L B b:Nat}{w:World}{vc vb:Value}{s:WSt}{qs:List Q4}(e:WrS L B b w vc vb s qs)(k t:Int)(a d:Option Addr){x:Ins}(A:InsP B w x (.int .i64 k) (.int .i64 t) (.pointer a) (.pointer d))(ab:s.C.length<=2000000000):
 Calls Tryz.prog 138 #[.pointer (some ⟨b,0,none⟩),.agg #[.int .i64 k,.int .i64 t,.pointer a,.pointer d]] w (EPst L B b w vc vb { s with C:=s.C++[x] } (.int .i64 (s.C.length:Int))):=by
 obtain⟨Q,y,E,F,G⟩:=info_parts ins_info;obtain⟨r,c,l⟩:=zU e.row;have m:Below w.heap.size w (w.alloc (.cells #[.int .i64 k,.int .i64 t,.pointer a,.pointer d] 172)):=Zb.alloc Zr _;have p:(w.alloc (.cells #[.int .i64 k,.int .i64 t,.pointer a,.pointer d] 172)).heap.size=w.heap.size+1:=zA _ _;have f:=heap_alloc_new w (.cells #[.int .i64 k,.int .i64 t,.pointer a,.pointer d] 172);have i:=e.keepB m;have ad:=e.lt;have D:=A.below (m.mono (show B<=w.heap.size by have:=e.hB;have:=e.hL;omega)) (Nat.le_refl B);have M:=hid m;clear m
 have P:((w.alloc (.cells #[.int .i64 k,.int .i64 t,.pointer a,.pointer d] 172)).cell? ⟨w.heap.size,0,none⟩=some (.int .i64 k)/\(w.alloc (.cells #[.int .i64 k,.int .i64 t,.pointer a,.pointer d] 172)).cell? ⟨w.heap.size,1,none⟩=some (.int .i64 t)/\(w.alloc (.cells #[.int .i64 k,.int .i64 t,.pointer a,.pointer d] 172)).cell? ⟨w.heap.size,2,none⟩=some (.pointer a)/\(w.alloc (.cells #[.int .i64 k,.int .i64 t,.pointer a,.pointer d] 172)).cell? ⟨w.heap.size,3,none⟩=some (.pointer d)):=
  ⟨(Lib.cell_of_heap f 0).trans rfl,(Lib.cell_of_heap f 1).trans rfl,(Lib.cell_of_heap f 2).trans rfl,(Lib.cell_of_heap f 3).trans rfl⟩
 go_enter Tryz.func138,Tryz.ntmps138;go_upto_region 1 with(fail);generalize w.alloc (.cells #[.int .i64 k,.int .i64 t,.pointer a,.pointer d] 172)=W at *;obtain⟨⟨O,S,T,U,V⟩,X⟩:=zQ i.box;rw[l]at O;have ae:b<W.heap.size:=I7
 have af:w.heap.size<W.heap.size:=I7
 obtain⟨ak,n1,n2,al⟩:=P;have ai:=Nat.le_of_eq p;have aj:=Nat.le_of_eq p.symm;clear p;have K:=hid (show(W.alloc (.cells #[.int .i64 k,.int .i64 t,.pointer a,.pointer d] 172)).ownsRow L 172 4 (.slice r s.C.length c) s.C.length (qs.flatMap q4)from l ▸ qR i.row ((Below.refl W.heap.size W).alloc Zr _) Zr);have J:=hid (yO W [.int .i64 k,.int .i64 t,.pointer a,.pointer d] 172);have g:=hid (And.intro y (And.intro E (And.intro F G)));have H:=hid i;have u:=hid l;have N:=hid D;have Z:L<=W.heap.size:=by have:=e.hL;omega
 have I:=hid (show Below W.heap.size W (W.alloc (.cells #[.int .i64 k,.int .i64 t,.pointer a,.pointer d] 172)).drew from((Below.refl W.heap.size W).alloc Zr _).drew);have ah:(W.alloc (.cells #[.int .i64 k,.int .i64 t,.pointer a,.pointer d] 172)).heap.size=W.heap.size+1:=zA _ _;clear e i y E F G l A D f
 go_region_law (first
  | (refine qo rfl (.tmp 9) (.tmp 11) _ rfl L 172 Q _ 4 32 Tryz.underlying118 g.out.1 g.out.2.1 g.out.2.2.1 g.out.2.2.2 rfl I7 (.slice r s.C.length c) s.C.length _ rfl (by exact qR K.out Zb.drew Zr) ⟨W.heap.size,0,none⟩ 1 1 [.int .i64 k,.int .i64 t,.pointer a,.pointer d] rfl rfl (by exact J.out) Ig If I7 (by show L<=(W.alloc _).heap.size;omega) I7 ?_
     intro am w8 o v z;obtain⟨R,Y,rfl⟩:=zU o;have j:=H.out.emit (q:=(.int .i64 k,.int .i64 t,.pointer a,.pointer d)) I.out (by rw[u.out];exact v) (by rw[u.out];exact z) o N.out;obtain⟨⟨an,ao,ap,aq,ar⟩,au⟩:=zQ j.1;have aa:b<w8.heap.size:=zB j.1;have n:=hid j.2
     clear o v z j))
 all_goals
  have ag:IntKind.i64.wrap (((s.C.length+1 :Nat):Int)-1)=(s.C.length:Int):=Ie
  go_wp2_with (fail);go_ret;exact⟨_,_,rfl,n.out.1,(OffX.of_below (WT b vc vb) M.out).trans n.out.2.1 fun _ _ e=>e,n.out.2.2.mono I7⟩
theorem qB{L B b:Nat}{w:World}{vc vb:Value}{s:WSt}{qs:List Q4}(d:WrS L B b w vc vb s qs)(k t:Int)(a c:Option Addr){x:Ins}(m:InsP B w x (.int .i64 k) (.int .i64 t) (.pointer a) (.pointer c))(l:s.C.length<=2000000000):
 Calls Tryz.prog 138 #[.pointer (some ⟨b,0,none⟩),.agg #[.int .i64 k,.int .i64 t,.pointer a,.pointer c]] w (yi L B b w vc vb { s with C:=s.C++[x] } (.int .i64 (s.C.length:Int))):=by
 refine(wemit_at d k t a c m l).mono ?_;rintro e w' ⟨o,n,f,g,i,j⟩;exact⟨o,vb,n,f,g,i,j,RowTo.refl _ _⟩
theorem InsP.set{B:Nat}{w:World}{x:Ins}{a b c d:Value}(f:InsP B w x a b c d)(g:isJ x=true)(n:Nat):InsP B w (setTo n x) a (.int .i64 (n:Int)) c d:=by
 cases x with
 | jmp t=>exact⟨f.1,rfl,f.2.2.1,f.2.2.2⟩
 | unl t=>exact⟨f.1,rfl,f.2.2.1,f.2.2.2⟩
 | lzy z t=>exact⟨f.1,rfl,f.2.2.1,f.2.2.2⟩
 | beg=>cases g
 | app e=>cases g
 | fin t=>cases g
 | ent=>cases g
 | lve=>cases g
theorem WrS.setp{L B b:Nat}{w:World}{vb:Value}{s:WSt}{qs:List Q4}{g c:Nat}(a:WrS L B b w (.slice (some ⟨g,0,none⟩) s.C.length c) vb s qs){i n:Nat}{x:Ins}(o:s.C[i]? =some x)(H:isJ x=true):
 ∃I,WrS L B b (w.setCell ⟨g,i*4+1,none⟩ (.int .i64 (n:Int))) (.slice (some ⟨g,0,none⟩) s.C.length c) vb { s with C:=xQ n s.C i } I/\OffX (fun k=>k=g) w (w.setCell ⟨g,i*4+1,none⟩ (.int .i64 (n:Int))):=by
 have r:=(List.getElem?_eq_some_iff.1 o).1;obtain⟨q,z⟩:∃q,qs[i]? =some q:=⟨_,List.getElem?_eq_getElem (by rw[a.ql];exact r)⟩
 have F:b≠g:=fun e=>a.cb (by rw[e];rfl)
 have m:OffX (fun k=>k=g) w (w.setCell ⟨g,i*4+1,none⟩ (.int .i64 (n:Int))):=OffX.set (X:=fun k=>k=g) w rfl _ _;have U:=a.tl (k:=g) (.inr (.inl rfl));have u:Below B w (w.setCell ⟨g,i*4+1,none⟩ (.int .i64 (n:Int))):=m.below Qd fun k t (e:k=g)=>Iq
 have E:xQ n s.C i=s.C.set i (setTo n x):=by unfold xQ;rw[o]
 refine⟨qs.set i (q.1,.int .i64 (n:Int),q.2.2.1,q.2.2.2),⟨a.hB,a.hL,(m.block b a.lt F).trans a.box,?_,?_,fun j y p d f=>?_,zm a.brow fun k t=>m.block k (qP a.brow k t).1 fun(e:k=g)=>a.bc g rfl (e ▸ t)⟩,m⟩
 .show(w.setCell _ _).ownsRow L _ 4 _ (xQ n s.C i).length _
  rw[setAt_len,<-flat4_set qs i q _ z];rcases a.row.2 with⟨_,T⟩|⟨S,Q,A,G,J,K,M,N,O,P⟩
  .omega
  .injection G with l R D
   injection l with l;injection l with l _ _;subst l D;refine⟨by rw[List.length_set];exact a.row.1,.inr ⟨g,c,A.setIfInBounds (i*4+1) (.int .i64 (n:Int)),rfl,J,Lib.heap_setCell_same K _,M,N,Qn,?_⟩⟩;rw[<-P,Array.toList_setIfInBounds,List.take_set]
 .show(qs.set i _).length=(xQ n s.C i).length
  rw[List.length_set,setAt_len];exact a.ql
 .have d:(xQ n s.C i)[j]? =some y:=d
  rw[E,List.getElem?_set]at d;rw[List.getElem?_set]at f;by_cases v:i=j
  .subst v
   rw[if_pos rfl,if_pos r]at d;rw[if_pos rfl,if_pos (by rw[a.ql];exact r)]at f;injection d with d;injection f with f;subst d f;exact((a.qi i x q o z).set H n).below u Zr
  .rw[if_neg v]at d f
   exact(a.qi j y p d f).below u Zr
def LandP(L B b:Nat)(w:World)(vc vb:Value)(s:WSt)(e:Ending)(w':World):Prop:=∃qs,e=.returned (.tuple #[])/\WrS L B b w' vc vb s qs/\OffX (fun k=>vc.ownBlock=some k) w w'
theorem vZ{L B b:Nat}{w:World}{vc vb:Value}{s:WSt}{qs:List Q4}(f:WrS L B b w vc vb s qs){ps:List Nat}{A:Option Addr}{Y:Nat}(P:∀(j p:Nat),ps[j]? =some p->∃g o,A=some ⟨g,o,none⟩/\g<w.heap.size/\vc.ownBlock≠some g/\w.cell? ⟨g,o+j,none⟩=some (.int .i64 (p:Int)))(t:JmpAt s.C ps)(aC:s.C.length<=2000000000)(aG:ps.length<=2000000000):
 Calls Tryz.prog 155 #[.pointer (some ⟨b,0,none⟩),.slice A ps.length Y] w (LandP L B b w vc vb { s with C:=jG s.C.length s.C ps }):=by
 obtain⟨D,c,ah⟩:=zU f.row;subst ah;have H:=hid f;have W:=hid P;have U:=hid t;clear f P t;go_enter Tryz.func155,Tryz.ntmps155;go_wp2_with (fail)
 go_loopw [8] (fun iv wr=>∃(j:Nat) (qs':List Q4),j<=ps.length/\iv=.int .i64 (j:Int)/\WrS L B b wr (.slice D s.C.length c) vb { s with C:=jG s.C.length s.C (ps.take j) } qs'/\OffX (fun k=>(Value.slice D s.C.length c).ownBlock=some k) w wr) (fun iv _=>ps.length-(intOf iv).toNat)
 case atStart=>exact⟨0,qs,Nat.zero_le _,rfl,H.out,OffX.refl _ _⟩
 case round=>
  obtain⟨j,qs',t,rfl,q,O⟩:=hrel;have d:=hid q;have l:=hid O;obtain⟨⟨am,an,ao,ap,aq⟩,ar⟩:=zQ q.box;have aD:=q.lt;clear q O;by_cases ab:j<ps.length
  .obtain⟨p,m⟩:∃p,ps[j]? =some p:=⟨_,List.getElem?_eq_getElem ab⟩
   obtain⟨r,op,rfl,N,ad,M⟩:=W.out j p m;have aA:r<wr.heap.size:=Nat.lt_of_lt_of_le N l.out.size;have ay:wr.cell? ⟨r,op+j,none⟩=some (.int .i64 (p:Int)):=(World.cell?_of_block (l.out.block r N ad)).trans M;obtain⟨aM,z,aj⟩:=U.out p (List.mem_of_getElem? m);obtain⟨x,T,ai⟩:=patch_jmp (n:=s.C.length) (ps:=ps.take j) z aj;have aE:=(List.getElem?_eq_some_iff.1 z).1;obtain⟨g,au,a,_,az,_,_,aB⟩:=yS d.out.row (by show 0<(jG _ _ _).length;rw[vY];omega);injection a with a F G;subst a G;have v:(jG s.C.length s.C (ps.take j)).length=s.C.length:=vY _ _ _;have y:(Value.slice (some ⟨g,0,none⟩) s.C.length c)=.slice (some ⟨g,0,none⟩) (jG s.C.length s.C (ps.take j)).length c:=by rw[v]
   have S:WrS L B b wr (.slice (some ⟨g,0,none⟩) (WSt.C { s with C:=jG s.C.length s.C (ps.take j) }).length c) vb { s with C:=jG s.C.length s.C (ps.take j) } qs':=by
    show WrS L B b wr (.slice (some ⟨g,0,none⟩) (jG s.C.length s.C (ps.take j)).length c) vb _ qs';rw[<-y];exact d.out
   obtain⟨qs2,Q,R⟩:=S.setp (n:=s.C.length) (i:=p) (x:=x) T ai;have E:=hid (And.intro Q R)
   obtain⟨u,aH⟩:∃u,wr.cell? ⟨g,p*4+1,none⟩=some u:=by
    rcases d.out.row.2 with⟨_,I⟩|⟨aw,av,Z,ag,aI,ak,aJ,aK,aL,al⟩
    .exfalso;have I:(jG s.C.length s.C (ps.take j)).length=0:=I;omega
    .injection ag with a F G
     injection a with a;injection a with a _ _;subst a
     have ae:p*4+1<Z.size:=by
      have K:=congrArg List.length al;rw[flat4_len,d.out.ql]at K;simp at K;have ax:(jG s.C.length s.C (ps.take j)).length=s.C.length:=v;omega
     exact⟨_,(Lib.cell_of_heap ak _).trans (Array.getElem?_eq_getElem ae)⟩
   have aF:(p:Int)<(s.C.length:Int):=I7
   have V:=hid m;have X:=hid y;clear S Q R z T m M y v F;go_wp2_with (fail)
   go_still_tail 12,(by kernel_rfl)
   repeat still_step
   change wpList _ _ _ _ _ wr.drew;go_wp2_with (fail);go_roundw
   case rel=>
    refine⟨j+1,qs2,I7,by go_num,?_,?_⟩
    .have af:ps.take (j+1)=ps.take j++[p]:=by rw[List.take_add_one,V.out];rfl
     rw[af,patch_snoc];have J:=E.out.1.keepB Zb.drew;rw[<-X.out]at J;exact J
    .exact(l.out.trans E.out.2 fun k _ (e:k=g)=>by rw[e];rfl).trans (OffX.drew (fun _=>False) _) fun _ _ f=>f.elim
   case measure=>simp[intOf];omega
  .have aa:j=ps.length:=by omega
   subst aa;go_wp2_with (fail)
   go_end0
   exact⟨_,rfl,by have:=d.out;rw[List.take_length]at this;exact this,l.out⟩
structure Cum (L B b:Nat) (w:World) (vc vb:Value) (w1:World) (vc1 vb1:Value) (s1:WSt) (qs1:List Q4):Prop where
 wr:WrS L B b w1 vc1 vb1 s1 qs1
 off:OffX (WT b vc vb) w w1
 rc:RowTo w.heap.size vc vc1
 rb:RowTo w.heap.size vb vb1
section
variable {L B b:Nat} {w w1 w2:World} {vc vb vc1 vb1 vc2 vb2:Value} {s s1 s2:WSt} {qs qs1 qs2:List Q4}
theorem Cum.start(h:WrS L B b w vc vb s qs):Cum L B b w vc vb w vc vb s qs:=⟨h,OffX.refl _ _,RowTo.refl _ _,RowTo.refl _ _⟩
theorem Cum.next(a:Cum L B b w vc vb w1 vc1 vb1 s1 qs1)(g:Cum L B b w1 vc1 vb1 w2 vc2 vb2 s2 qs2):Cum L B b w vc vb w2 vc2 vb2 s2 qs2:=
 ⟨g.wr,a.off.trans g.off fun k c d=>WT.old a.rc a.rb c d,a.rc.trans g.rc a.off.size,a.rb.trans g.rb a.off.size⟩
theorem Cum.below(a:WrS L B b w vc vb s qs)(c:Cum L B b w vc vb w1 vc1 vb1 s1 qs1):Below B w w1:=(a.below c.off).mono a.hB
theorem Cum.mono(c:WrS L B b w vc vb s qs)(a:Below w.heap.size w w1):Cum L B b w vc vb w1 vc vb s qs:=⟨c.keepB a,OffX.of_below _ a,RowTo.refl _ _,RowTo.refl _ _⟩
theorem yi.cum{v:Value}{e:Ending}{w':World}(d:yi L B b w vc vb s v e w'):∃c a qs,e=.returned v/\Cum L B b w vc vb w' c a s qs:=by
 obtain⟨c,a,qs,f,g,i,j,k⟩:=d;exact⟨c,a,qs,f,g,i,j,k⟩
theorem Cum.post(h:Cum L B b w vc vb w1 vc1 vb1 s1 qs1)(v:Value):yi L B b w vc vb s1 v (.returned v) w1:=⟨vc1,vb1,qs1,rfl,h.wr,h.off,h.rc,h.rb⟩
theorem Cum.land{w':World}{e:Ending}(a:LandP L B b w vc vb s e w'):∃qs,e=.returned (.tuple #[])/\Cum L B b w vc vb w' vc vb s qs:=by
 obtain⟨qs,c,d,f⟩:=a;exact⟨qs,c,d,f.mono fun k _ g=>.inr (.inl g),RowTo.refl _ _,RowTo.refl _ _⟩
end
def WEx(L B b:Nat)(m:Nat):Prop:=∀(e:Ex) (w:World) (v vc vb:Value) (s:WSt) (qs:List Q4),WrS L B b w vc vb s qs->PtE B w v e->vJ e m=true->s.C.length+zg e<=1000000000->
 Calls Tryz.prog 156 #[.pointer (some ⟨b,0,none⟩),v] w (yi L B b w vc vb { s with C:=s.C++xp e s.C.length } (.tuple #[]))
theorem xL.ptr{B:Nat}{w:World}{a:Option Addr}{n c:Nat}{l:List Ex}(f:xL B w (.slice a n c) l){i:Nat}{e:Ex}(b:l[i]? =some e):∃g o,a=some ⟨g,o,none⟩/\PtE B w (.pointer (some ⟨g,o+i*5,none⟩)) e:=by
 obtain⟨p,q,m,r,hF⟩:=f;injection m with d _ _;subst d;obtain⟨g,o,j,k⟩:=hF Qv;exact⟨g,o,j,g,_,rfl,jd.at l g o i e k b⟩
theorem uH{L B b m:Nat}(N:WEx L B b m){w:World}{v vc vb:Value}{s:WSt}{qs:List Q4}(p:WrS L B b w vc vb s qs){l:List Ex}(i:xL B w v l)(t:qC l m=true)(S:s.C.length+zE l<=1000000000):
 Calls Tryz.prog 142 #[.pointer (some ⟨b,0,none⟩),v] w (yi L B b w vc vb { s with C:=s.C++zv l s.C.length } (.tuple #[])):=by
 obtain⟨Q,c,rfl,T⟩:=i.form;have H:=hid p;have I:=hid i;have F:=hid t;clear p i t;go_enter Tryz.func142,Tryz.ntmps142;go_wp2_with (fail)
 go_loopw [7] (fun iv wr=>∃(j:Nat) (vc1 vb1:Value) (qs1:List Q4),j<=l.length/\iv=.int .i64 (j:Int)/\Cum L B b w vc vb wr vc1 vb1 { s with C:=s.C++zv (l.take j) s.C.length } qs1) (fun iv _=>l.length-(intOf iv).toNat)
 case atStart=>exact⟨0,vc,vb,qs,Nat.zero_le _,rfl,by have:=Cum.start H.out;simpa[zv]using this⟩
 case round=>
  obtain⟨j,vc1,vb1,qs1,R,rfl,r⟩:=hrel;have a:=hid r;clear r;by_cases P:j<l.length
  .obtain⟨x,d⟩:∃x,l[j]? =some x:=⟨_,List.getElem?_eq_getElem P⟩
   obtain⟨g,o,rfl,u⟩:=(I.out.below (a.out.below H.out) Zr).ptr d;have k:l.take (j+1)=l.take j++[x]:=by rw[List.take_add_one,d];rfl
   have f:(s.C++zv (l.take j) s.C.length).length=s.C.length+zE (l.take j):=by rw[List.length_append,qZ]
   have U:zE (l.take j)+zg x<=zE l:=by
    have K:l=l.take (j+1)++l.drop (j+1):=(List.take_append_drop _ _).symm;have M:=congrArg zE K;rw[lenXs_app,k,lenXs_app,zE,zE]at M;omega
   have G:=hid u;have y:=ue F.out d;have J:=hid y;have E:=hid (show s.C++zv (l.take (j+1)) s.C.length=s.C++zv (l.take j) s.C.length++xp x (s.C++zv (l.take j) s.C.length).length by rw[k,genXs_app,zv,zv,List.append_nil,f,List.append_assoc]);have q:(s.C++zv (l.take j) s.C.length).length+zg x<=1000000000:=by rw[f];omega
   have A:=hid q;clear u y d k f q
   go_wp2_with (first
    | (go_at_call 156;(refine(N x wr _ _ _ _ _ a.out.wr G.out J.out A.out).mono ?_);rintro e w2 z
       obtain⟨vc2,vb2,qs2,rfl,n⟩:=z.cum;have D:=hid (a.out.next n)
       clear z n))
   go_roundw
   case rel=>exact⟨j+1,vc2,vb2,qs2,I7,by go_num,by rw[E.out];exact D.out⟩
   case measure=>simp[intOf];omega
  .have O:j=l.length:=by omega
   subst O;go_wp2_with (fail)
   go_end0
   have:=a.out;rw[List.take_length]at this;exact this.post _
theorem land_one(C D:List Ins)(x:Ins)(n:Nat):jG n (C++[x]++D) [C.length]=C++[setTo n x]++D:=by
 have h:=setAt_app n C [x] D (i:=0) Ia;rw[Nat.add_zero]at h;show xQ n (C++[x]++D) C.length=_;rw[h];rfl
theorem jmp_one(C D:List Ins)(x:Ins)(b:isJ x=true):JmpAt (C++[x]++D) [C.length]:=fun i a=>by
 rw[List.mem_singleton.1 a];refine⟨x,?_,b⟩;rw[List.append_assoc,List.getElem?_append_right Zr,Nat.sub_self];rfl
theorem one_place(w:World)(n:Nat)(vc:Value)(c:∀k,vc.ownBlock=some k->k<w.heap.size):∀(j p:Nat),[n][j]? =some p->∃g o,(some ⟨w.heap.size,0,none⟩:Option Addr)=some ⟨g,o,none⟩/\g<(w.alloc (.cells #[.int .i64 (n:Int)] 3)).heap.size/\vc.ownBlock≠some g/\(w.alloc (.cells #[.int .i64 (n:Int)] 3)).cell? ⟨g,o+j,none⟩=some (.int .i64 (p:Int)):=fun j p a=>by
 have b:j=0:=by have:=(List.getElem?_eq_some_iff.1 a).1;simp at this;exact this
 subst b;simp at a;subst a;exact⟨w.heap.size,0,rfl,Ic,fun e=>by have:=c _ e;omega,(Lib.cell_of_heap (heap_alloc_new w _) 0).trans rfl⟩
def WLz(L B b:Nat)(m:Nat):Prop:=∀(z:Bool) (a op n:Int) (name:ByteArray) (args:List Ex) (w:World) (v vc vb:Value) (s:WSt) (qs:List Q4),(Value.int .i64 a=.int .i64 (if z then 5 else 6))->WrS L B b w vc vb s qs->PtE B w v (.mk 5 op n name args)->args.length=2->qC args m=true->s.C.length+zE args+1<=1000000000->
 Calls Tryz.prog 166 #[.pointer (some ⟨b,0,none⟩),v,.int .i64 a] w (yi L B b w vc vb { s with C:=s.C++genZ args s.C.length z } (.tuple #[]))
theorem wlazy_any{L B b m:Nat}(Q:WEx L B b m):WLz L B b m:=by
 intro z ay op n name args w v vc vb s qs T f V R y ap
 obtain⟨a0,a,rfl⟩:∃a0 a,args=[a0,a]:=by
  match args,R with
  | [a0,a],_=>exact⟨a0,a,rfl⟩
 obtain⟨g,o,rfl,am,aD,aE,aF,aG,_,aM,O,q⟩:=V.cells;obtain⟨aA,c,rfl,_⟩:=q.form;obtain⟨aC,aJ,rfl,A⟩:=q.ptr (i:=0) (e:=a0) rfl;obtain⟨_,_,d,D⟩:=q.ptr (i:=1) (e:=a) rfl;injection d with d;injection d with d ak _;subst d ak;rw[qb,qb,Bool.and_eq_true,Bool.and_eq_true]at y;rw[zE,zE,zE]at ap;have aH:B<=w.heap.size:=by have:=f.hB;have:=f.hL;have:=f.lt;omega
 have an:g<w.heap.size:=I7
 have I:=hid f;rw[Nat.zero_mul,Nat.add_zero]at A;rw[Nat.one_mul]at D;have af:=hid A;have ag:=hid D;have J:=hid y;have ae:=hid T;have U:([a0,a]:List Ex).length=2:=rfl;rw[U]at O;have ab:=hid O;have aq:s.C.length+zg a0<=1000000000:=I7
 clear f V A D y q U R T;go_enter Tryz.func166,Tryz.ntmps166
 go_upto_region 1 with(first
  | (go_at_call 156;(refine(Q a0 w _ _ _ _ _ I.out af.out J.out.1 aq).mono ?_);rintro e w1 W
     obtain⟨vc1,vb1,qs1,rfl,K⟩:=W.cum;have j:=hid K
     clear W K))
 have S:(s.C++xp a0 s.C.length).length=s.C.length+zg a0:=by rw[List.length_append,xH]
 generalize hC1:s.C++xp a0 s.C.length=C1 at *;have H:=hid (And.intro hC1 S);have ar:C1.length<=2000000000:=I7
 clear hC1 S
 go_upto_region 2 with(first
  | (go_at_call 138;(refine(qB j.out.wr ay 0 none none (x:=.lzy z 0) ⟨ae.out,rfl,rfl,rfl⟩ ar).mono ?_);rintro e w2 X
     obtain⟨vc2,vb2,qs2,rfl,l⟩:=X.cum;have F:=hid (j.out.next l);have t:=(j.out.next l).below I.out;have aB:=(t.cell (p:=⟨g,o+4,none⟩) am).trans ab.out;have aI:g<w2.heap.size:=Nat.lt_of_lt_of_le an (j.out.next l).off.size;have ah:=hid (ag.out.below t Zr)
     clear X l t))
 have au:(C1++[Ins.lzy z 0]).length+zg a<=1000000000:=by rw[List.length_append,List.length_singleton];have:=H.out.2;omega
 go_upto_region 3 with(first
  | (go_at_call 156;(refine(Q a w2 _ _ _ _ _ F.out.wr ah.out J.out.2.1 au).mono ?_);rintro e E Y
     obtain⟨az,aN,aK,rfl,M⟩:=Y.cum;have r:=hid (F.out.next M)
     clear Y M))
 have P:=r.out.wr;have G:=hid (r.out.next (Cum.mono r.out.wr ((Below.refl E.heap.size E).alloc Zr (.cells #[.int .i64 (C1.length:Int)] 3))));have ai:=hid (one_place E C1.length az fun k ao=>(P.tl (.inr (.inl ao))).2);have ad:=hid (jmp_one C1 (xp a (C1++[Ins.lzy z 0]).length) (.lzy z 0) rfl);have av:(C1++[Ins.lzy z 0]++xp a (C1++[Ins.lzy z 0]).length).length<=2000000000:=by rw[List.length_append,xH];omega
 clear P
 go_wp2_with (first
  | (go_at_call 155;(refine(vZ (ps:=[C1.length]) G.out.wr ai.out ad.out av Ia).mono ?_);rintro e aO Z
     obtain⟨aL,rfl,N⟩:=Cum.land Z;have aa:=hid (G.out.next N)
     clear Z N))
 go_end0
 have u:=aa.out;rw[land_one]at u
 have aj:C1++[setTo (C1++[Ins.lzy z 0]++xp a (C1++[Ins.lzy z 0]).length).length (Ins.lzy z 0)]++xp a (C1++[Ins.lzy z 0]).length=s.C++genZ [a0,a] s.C.length z:=by
  obtain⟨al,_⟩:=H.out;subst al
  have ax:(s.C++xp a0 s.C.length++[Ins.lzy z 0]++xp a (s.C++xp a0 s.C.length++[Ins.lzy z 0]).length).length=s.C.length+zg a0+1+zE [a]:=by
   simp only[List.length_append,xH,List.length_singleton,zE];omega
  have aw:(s.C++xp a0 s.C.length++[Ins.lzy z 0]).length=s.C.length+zg a0+1:=by simp only[List.length_append,xH,List.length_singleton]
  rw[ax,aw,genZ,zv,zv,List.append_nil];simp only[setTo,List.append_assoc,List.singleton_append]
 rw[aj]at u;exact u.post _
theorem wexpr_both{L B b m:Nat}(N:WEx L B b m)(n:Int)(name:ByteArray)(args:List Ex)(w:World)(v vc vb:Value)(s:WSt)(qs:List Q4)(c:WrS L B b w vc vb s qs)(f:PtE B w v (.mk 5 18 n name args))(r:args.length=2)(u:qC args m=true)(P:s.C.length+zE args+2<=1000000000):
 Calls Tryz.prog 156 #[.pointer (some ⟨b,0,none⟩),v] w (yi L B b w vc vb { s with C:=s.C++[Ins.beg]++genZ args (s.C++[Ins.beg]).length true } (.tuple #[])):=by
 obtain⟨g,o,rfl,t,l,q,J,K,_,V,M,R⟩:=f.cells;have T:B<=w.heap.size:=Uk
 have O:g<w.heap.size:=I7
 have j:=hid c;have I:=hid f;have i:=hid (And.intro l q);have F:=hid (show(s.C++[Ins.beg]).length+zE args+1<=1000000000 by rw[List.length_append,List.length_singleton];omega);have A:=hid r;have H:=hid u;have Q:s.C.length<=2000000000:=I7
 clear c f l q J K M R P r u;go_enter Tryz.func156,Tryz.ntmps156
 go_wp2_with (first
  | (go_at_call 138;(refine(qB j.out 0 0 none none (x:=.beg) ⟨rfl,rfl,rfl,rfl⟩ Q).mono ?_);rintro e w1 y
     obtain⟨vc1,vb1,qs1,rfl,a⟩:=y.cum;have D:=hid a;have d:=a.below j.out;have U:g<w1.heap.size:=Nat.lt_of_lt_of_le O a.off.size;have S:=(d.cell (p:=⟨g,o,none⟩) t).trans i.out.1;have f1:=(d.cell (p:=⟨g,o+1,none⟩) t).trans i.out.2;have G:=hid (wlazy_any N true 5 18 n name args w1 (.pointer (some ⟨g,o,none⟩)) vc1 vb1 { s with C:=s.C++[Ins.beg] } qs1 rfl a.wr (I.out.below d Zr) A.out H.out F.out)
     clear y a d)
  | (go_at_call 166;(refine G.out.mono ?_);rintro e w2 z
     obtain⟨vc2,vb2,qs2,rfl,k⟩:=z.cum;have E:=hid (D.out.next k)
     clear z k))
 all_goals
  go_end0
  exact E.out.post _
theorem wexpr_either{L B b m:Nat}(N:WEx L B b m)(n:Int)(name:ByteArray)(args:List Ex)(w:World)(v vc vb:Value)(s:WSt)(qs:List Q4)(c:WrS L B b w vc vb s qs)(f:PtE B w v (.mk 5 19 n name args))(r:args.length=2)(u:qC args m=true)(P:s.C.length+zE args+2<=1000000000):
 Calls Tryz.prog 156 #[.pointer (some ⟨b,0,none⟩),v] w (yi L B b w vc vb { s with C:=s.C++[Ins.beg]++genZ args (s.C++[Ins.beg]).length false } (.tuple #[])):=by
 obtain⟨g,o,rfl,t,l,q,J,K,_,V,M,R⟩:=f.cells;have T:B<=w.heap.size:=Uk
 have O:g<w.heap.size:=I7
 have j:=hid c;have I:=hid f;have i:=hid (And.intro l q);have F:=hid (show(s.C++[Ins.beg]).length+zE args+1<=1000000000 by rw[List.length_append,List.length_singleton];omega);have A:=hid r;have H:=hid u;have Q:s.C.length<=2000000000:=I7
 clear c f l q J K M R P r u;go_enter Tryz.func156,Tryz.ntmps156
 go_wp2_with (first
  | (go_at_call 138;(refine(qB j.out 0 0 none none (x:=.beg) ⟨rfl,rfl,rfl,rfl⟩ Q).mono ?_);rintro e w1 y
     obtain⟨vc1,vb1,qs1,rfl,a⟩:=y.cum;have D:=hid a;have d:=a.below j.out;have U:g<w1.heap.size:=Nat.lt_of_lt_of_le O a.off.size;have S:=(d.cell (p:=⟨g,o,none⟩) t).trans i.out.1;have f1:=(d.cell (p:=⟨g,o+1,none⟩) t).trans i.out.2;have G:=hid (wlazy_any N false 6 19 n name args w1 (.pointer (some ⟨g,o,none⟩)) vc1 vb1 { s with C:=s.C++[Ins.beg] } qs1 rfl a.wr (I.out.below d Zr) A.out H.out F.out)
     clear y a d)
  | (go_at_call 166;(refine G.out.mono ?_);rintro e w2 z
     obtain⟨vc2,vb2,qs2,rfl,k⟩:=z.cum;have E:=hid (D.out.next k)
     clear z k))
 all_goals
  go_end0
  exact E.out.post _
theorem wexpr_other{L B b m:Nat}(Y:WEx L B b m)(k op n:Int)(name:ByteArray)(args:List Ex)(w:World)(v vc vb:Value)(s:WSt)(qs:List Q4)(d:WrS L B b w vc vb s qs)(t:PtE B w v (.mk k op n name args))(G:qC args m=true)(aa:s.C.length+zE args+2<=1000000000)(K M N:Bool)(aj:(k == 5)=K)(ak:(op == 18)=M)(al:(op == 19)=N)(i:K=false\/M=false/\N=false):
 Calls Tryz.prog 156 #[.pointer (some ⟨b,0,none⟩),v] w (yi L B b w vc vb { s with C:=s.C++[Ins.beg]++zv args (s.C++[Ins.beg]).length++[.app (.mk k op n name args)] } (.tuple #[])):=by
 obtain⟨g,o,rfl,r,D,E,W,X,_,an,F,u⟩:=t.cells;obtain⟨ae,c,rfl,_⟩:=u.form;have ah:B<=w.heap.size:=by have:=d.hB;have:=d.hL;have:=d.lt;omega
 have Z:g<w.heap.size:=I7
 have l:=hid d;have T:=hid t;have j:=hid (And.intro D (And.intro E F));have V:=hid u;have Q:=hid (show(s.C++[Ins.beg]).length+zE args<=1000000000 by rw[List.length_append,List.length_singleton];omega);have R:=hid (show(s.C++[Ins.beg]++zv args (s.C++[Ins.beg]).length).length<=2000000000 by rw[List.length_append,qZ,List.length_append,List.length_singleton];omega);have S:=hid G;have ab:s.C.length<=2000000000:=I7
 clear d t D E W X F u aa G;go_enter Tryz.func156,Tryz.ntmps156;rcases i with i|⟨i,ad⟩
 all_goals
  (try subst i)
  (try subst ad)
  go_upto_region 3 with(first
   | (go_at_call 138;(refine(qB l.out 0 0 none none (x:=.beg) ⟨rfl,rfl,rfl,rfl⟩ ab).mono ?_);rintro e w1 H
      obtain⟨vc1,vb1,qs1,rfl,a⟩:=H.cum;have y:=hid a;have f:=a.below l.out;have ai:g<w1.heap.size:=Nat.lt_of_lt_of_le Z a.off.size;have af:=(f.cell (p:=⟨g,o,none⟩) r).trans j.out.1;have f1:=(f.cell (p:=⟨g,o+1,none⟩) r).trans j.out.2.1;have ag:=(f.cell (p:=⟨g,o+4,none⟩) r).trans j.out.2.2;have P:=hid (uH Y a.wr (V.out.below f Zr) S.out Q.out)
      clear H a f))
  go_upto_region 2 with(first
   | (go_at_call 142;(refine P.out.mono ?_);rintro e w2 I
      obtain⟨vc2,vb2,qs2,rfl,q⟩:=I.cum;have z:=hid (y.out.next q);have U:=hid (T.out.below ((y.out.next q).below l.out) Zr)
      clear I q))
  go_wp2_with (first
   | (go_at_call 138;(refine(qB z.out.wr 1 0 (some ⟨g,o,none⟩) none (x:=.app (.mk k op n name args)) ⟨rfl,rfl,U.out,rfl⟩ R.out).mono ?_);rintro e aq J
      obtain⟨ap,ao,am,rfl,A⟩:=J.cum;have O:=hid (z.out.next A)
      clear J A))
 all_goals
  go_end0
  exact O.out.post _
theorem wexpr_step{L B b m:Nat}(i:WEx L B b m):WEx L B b (m+1):=by
 intro e w v vc vb s qs d l c q;obtain⟨k,op,n,name,args⟩:=e;rw[kf,Bool.and_eq_true,Bool.and_eq_true,decide_eq_true_eq,Nat.add_sub_cancel]at c;rw[zg]at q;by_cases a:k=5/\(op=18\/op=19)
 .have o:args.length=2:=by have:=c.1.2;rw[a.1]at this;exact formE_two this
  have hF:∀z:Bool,decide (op=18)=z->s.C++[Ins.beg]++genZ args (s.C++[Ins.beg]).length z=s.C++xp (.mk k op n name args) s.C.length:=fun z r=>by
   rw[xp,if_pos a,List.length_append,List.length_singleton,List.append_assoc,List.singleton_append,r]
  obtain⟨p,j|j⟩:=a
  .subst p j
   rw[<-hF true rfl];exact wexpr_both i n name args w v vc vb s qs d l o c.2 I7
  .subst p j
   rw[<-hF false rfl];exact wexpr_either i n name args w v vc vb s qs d l o c.2 I7
 .have hF:s.C++[Ins.beg]++zv args (s.C++[Ins.beg]).length++[.app (.mk k op n name args)]=s.C++xp (.mk k op n name args) s.C.length:=by
   rw[xp,if_neg a,List.length_append,List.length_singleton,List.append_assoc,List.append_assoc,List.singleton_append]
  rw[<-hF];refine wexpr_other i k op n name args w v vc vb s qs d l c.2 I7 _ _ _ rfl rfl rfl ?_;by_cases f:k=5
  .exact .inr ⟨by simpa using fun g=>a ⟨f,.inl g⟩,by simpa using fun g=>a ⟨f,.inr g⟩⟩
  .exact .inl (by simpa using f)
theorem wexpr_all(L B b:Nat):∀m,WEx L B b m
 | 0=>fun e w v vc vb s qs _ _ a _=>by
   obtain⟨k,op,n,name,args⟩:=e;rw[kf]at a;simp at a
 | m+1=>wexpr_step (wexpr_all L B b m)
theorem isLet_any(k a:Int)(b c d f:Value)(w:World):
 Calls Tryz.prog 165 #[.agg #[.int .i64 k,.int .i64 a,b,c,d,f]] w fun e w'=>e=.returned (.bool (decide (k=1)))/\Below w.heap.size w w':=by
 have g:=heap_alloc_new w (.cells #[.int .i64 k,.int .i64 a,b,c,d,f] 139);have j:(w.alloc (.cells #[.int .i64 k,.int .i64 a,b,c,d,f] 139)).cell? ⟨w.heap.size,0,none⟩=some (.int .i64 k):=(Lib.cell_of_heap g 0).trans rfl;clear g;by_cases i:k=1
 all_goals
  go_enter Tryz.func165,Tryz.ntmps165;go_wp2_with (fail);go_ret;exact⟨by simp[i],Zb.alloc Zr _⟩
theorem letIn_at{l:List St}{i:Nat}{t:St}(a:l[i]? =some t)(b:isLt t=true):xq l=true:=List.any_eq_true.2 ⟨t,List.mem_of_getElem? a,b⟩
theorem letIn_no{l:List St}(b:∀(i:Nat) (t:St),i<l.length->l[i]? =some t->isLt t=false):xq l=false:=by
 unfold xq;rw[List.any_eq_false];intro t c;obtain⟨i,a⟩:=List.mem_iff_getElem?.1 c;rw[b i t (List.getElem?_eq_some_iff.1 a).1 a];decide
theorem index_any{B:Nat}{w:World}{v:Value}{l:List St}(y:B<=w.heap.size)(m:SlS B w v l):
 Calls Tryz.prog 168 #[v,.func (.func 165) #[] #[]] w fun e w'=>∃n:Int,e=.returned (.int .i64 n)/\decide (0<=n)=xq l/\-1<=n/\n<=281474976710656/\Below w.heap.size w w':=by
 obtain⟨I,c,rfl,M⟩:=m.form;have x:=hid m;clear m;go_enter Tryz.func168,Tryz.ntmps168;go_wp2_with (fail)
 go_loopw [8] (fun iv wr=>∃j:Nat,j<=l.length/\iv=.int .i64 (j:Int)/\(∀(i:Nat) (t:St),i<j->l[i]? =some t->isLt t=false)/\Below w.heap.size w wr) (fun iv _=>l.length-(intOf iv).toNat)
 case atStart=>exact⟨0,Nat.zero_le _,rfl,fun i t z=>I7,Below.refl _ _⟩
 case round=>
  obtain⟨j,L,rfl,u,d⟩:=hrel;have b:=hid d;have q:=hid u;by_cases D:j<l.length
  .obtain⟨t,a⟩:∃t,l[j]? =some t:=⟨_,List.getElem?_eq_getElem D⟩
   obtain⟨k,E,name,args,thn,els⟩:=t;obtain⟨g,o,F,G,H,rfl,J,N,O,P,Q,q4,R,_⟩:=(x.out.below (d.mono y) Zr).cells a;have K:g<wr.heap.size:=by have:=d.size;omega
   have r:=hid a;clear d u a;cases hk:(decide (k=1))
   all_goals
    have f:=hid hk;clear hk
    go_wp2_with (first
     | (go_at_call 165;(refine(isLet_any k E (.string name) F G H wr).mono ?_);rintro e w2 ⟨rfl,s⟩
        have p:=hid s;rw[f.out]
        clear s))
   .go_roundw
    case rel=>
     refine⟨j+1,I7,by go_num,fun i t z a=>?_,b.out.trans (p.out.mono b.out.size)⟩;by_cases A:i=j
     .subst A
      rw[r.out]at a;injection a with a;rw[<-a];exact f.out
     .exact q.out i t I7 a
    case measure=>simp[intOf];omega
   .go_ret
    exact⟨j,rfl,by rw[letIn_at r.out f.out];simp,I7,I7,b.out.trans (p.out.mono b.out.size)⟩
  .have C:j=l.length:=by omega
   subst C;go_wp2_with (fail);go_ret;exact⟨-1,rfl,by rw[letIn_no q.out];rfl,I7,I7,b.out⟩
theorem lets_any{B:Nat}{w:World}{v:Value}{l:List St}(j:B<=w.heap.size)(a:SlS B w v l):
 Calls Tryz.prog 164 #[v,.func (.func 165) #[] #[]] w fun e w'=>e=.returned (.bool (xq l))/\Below w.heap.size w w':=by
 obtain⟨k,c,rfl,m⟩:=a.form;have i:=hid a;clear a;go_enter Tryz.func164,Tryz.ntmps164
 go_wp2_with (first
  | (go_at_call 168;(refine(index_any j i.out).mono ?_);rintro e w2 ⟨n,rfl,d,o,p,b⟩
     have f:=hid b;have g:=hid d
     clear b d))
 go_ret;exact⟨by rw[g.out];rfl,f.out⟩
end Go.Proofs.YthcmenajdcbnnaaGreatDoor
