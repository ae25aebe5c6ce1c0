import Derived.Test.YthcmenajdcbnnaaGreatDoorAtParPrim
set_option linter.unusedSimpArgs false
set_option linter.unusedVariables false
set_option maxRecDepth 100000
/- The document's parser: expressions up to a bracket. -/
namespace Go.Proofs.YthcmenajdcbnnaaGreatDoor
open Lib (hid)
open Go.RowKit
theorem Oq{p:Prop}(h:p:=by
 have t:=(args_next (d:=d) o.out a.out E.out D.out F.out J.out I.out (fun k x=>(G.out k x).1) QG I7 h I7 ab.out i).at;have aC:=aj.out;simp[firstN];omega):p:=h
theorem Ot{p:Prop}(h:p:=by
 rw[k]at b;injection b with h _;subst h;exact .inr ⟨_,rfl,Nat.le_refl _⟩):p:=h
def xG(w:World)(v v':Value):Prop:=v'.ownBlock=v.ownBlock\/∃g,v'.ownBlock=some g/\w.heap.size<=g
theorem append_at{P:Program}{w:World}{G:Nat}{t o e:TypeId}{i:TypeInfo}{z:Value}{size B:Nat}(A:P.underlying t=some (.slice e))(r:P.info? e=some i)(E:i.zero=some z)
 (N:i.size=size) (K:i.bytes=B) (V:z.cells.size=size) (T:0<size)
 {v:Value} {n:Nat} {F:List Value} (y:w.ownsRow G e size v n F)
 {a:Addr} {m c:Nat} {d:List Value} (l:d.length=m*size) (x:∀j u,d[j]? =some u->w.cell? (a.add j)=some u) (I:∀u∈d,u.oneCell'=true)
 (q:n+m<=maxLen) (C:(n+m)*B<=140737488355328) (R:0<m) {v':Value} {w':World}
 (b:(Builtin.append_ #[t,t] o #[v,.slice (some a) m c]).run P w=.ok v' w'):xG w v v':=by
 subst N K;rcases y.2 with⟨rfl,rfl⟩|⟨g,p,H,rfl,O,M,S,Q,L,U⟩
 .have k:=run_append_nil (P:=P) w t o e i z A r E a m c d l x I7 QD (by have J:=C;simp only[Nat.zero_add]at J;omega)
  exact Ot
 .by_cases D:n+m<=p
  .have k:=run_append_room (P:=P) w t o e i A r g n p H M a m c d l x I D (by rw[l,L,<-Nat.add_mul];exact Nat.mul_le_mul_right _ D)
   rw[k]at b;injection b with h _;subst h;exact .inl rfl
  .have k:=run_append_grow (P:=P) w t o e i z A r E ⟨g,0,none⟩ n p F y.1 (y.cells (g:=g) rfl) a m c d l x I7 QD (growslice_fits QD C)
   exact Ot
theorem jC{P:Program}{w:World}{ops:Array Oper}{J:List Oper}{o:Oper}{a:Act}{Q:Exit->Act->World->Prop}(T:o.guard=none)(s x:Operand)(t:TypeId)
 (W:o.op=.call { callee:=.builtin .append,args:=#[s,x],argTypes:=#[t,t] })
 (d:Nat) (e:TypeId) (i:TypeInfo) (z:Value) (size h:Nat) (G:P.underlying t=some (.slice e)) (y:P.info? e=some i) (H:i.zero=some z)
 (E:i.size=size) (q:i.bytes=h) (I:z.cells.size=size) (F:0<size)
 (v:Value) (n:Nat) (k:List Value) (X:a.eval s=v) (C:w.ownsRow d e size v n k)
 (g:Addr) (m c:Nat) (b:List Value) (Y:a.eval x=.slice (some g) m c) (A:b.length=m*size) (B:∀j u,b[j]? =some u->w.cell? (g.add j)=some u) (l:∀u∈b,u.oneCell'=true)
 (p:n+m<=maxLen) (r:(n+m)*h<=140737488355328) (S:d<=w.heap.size) (V:0<m)
 (L:∀v' w',w'.ownsRow d e size v' (n+m) (k++b)->w.grownBy w' v.ownBlock->xG w v v'->wpList P ops Q J (a.put o.dst v') w'):wpList P ops Q (o::J) a w:=by
 refine wpList_plain T fun K R=>?_
 obtain⟨v',w',D,M,N,_⟩:=run_append_own (P:=P) w d t o.type e i z size h G y H E q I F v n k C g m c b A B l p r S;have O:=append_at G y H E q I F C A B l p r V D;have U:=R _ _ (L v' w' M N O);unfold Oper.wp execOp;simp only[W,resolve,invoke,builtin,Sem.run_bind,Sem.run_pure,Result.andThen_ok,List.map_toArray,List.map_cons,List.map_nil,X,Y,D];exact U
def exCs(ps:List (Ex × Value)):List Value:=ps.flatMap fun p=>[.int .i64 p.1.kind,.int .i64 p.1.op,.int .i64 p.1.n,.string p.1.name,p.2]
theorem exCs_snoc(ps:List (Ex × Value))(p:Ex × Value):exCs (ps++[p])=exCs ps++[.int .i64 p.1.kind,.int .i64 p.1.op,.int .i64 p.1.n,.string p.1.name,p.2]:=by simp[exCs]
def yI(B:Nat)(v:Value):Nat->Bool:=fun k=>decide (k<B) || v.ownBlock == some k
theorem qQ{B k:Nat}{v:Value}:yI B v k=false↔B<=k/\v.ownBlock≠some k:=by
 unfold yI;simp[Bool.or_eq_false_iff]
def vT(B:Nat)(w:World)(v:Value)(acc:List Ex):Prop:=
 ∃ps:List (Ex × Value),ps.map (·.1)=acc/\w.ownsRow B 147 5 v ps.length (exCs ps)/\∀p∈ps,i64R p.1.n/\xL w.heap.size (mask (yI B v) w) p.2 p.1.args
theorem vT.nil(B:Nat)(w:World):vT B w (.slice none 0 0) []:=⟨[],rfl,World.ownsRow_nil w B _ 5,fun p a=>Ii⟩
theorem vT.form{B:Nat}{w:World}{v:Value}{acc:List Ex}(b:vT B w v acc):∃a c,v=.slice a acc.length c:=by
 obtain⟨ps,rfl,d,_⟩:=b;rw[List.length_map];exact zU d
theorem vT.own{B:Nat}{w:World}{v:Value}{acc:List Ex}(a:vT B w v acc):∀k,v.ownBlock=some k->k<w.heap.size/\B<=k:=by
 obtain⟨ps,_,b,_⟩:=a;exact qP b
theorem xL.mask{p q:Nat->Bool}{w w':World}{v:Value}{l:List Ex}(b:xL w.heap.size (_root_.Go.Proofs.YthcmenajdcbnnaaGreatDoor.mask p w) v l)(i:w.heap.size<=w'.heap.size)(d:∀k,k<w.heap.size->p k=false->q k=false/\w'.heap[k]? =w.heap[k]?):xL w'.heap.size (_root_.Go.Proofs.YthcmenajdcbnnaaGreatDoor.mask q w') v l:=by
 refine b.imp fun g o u a=>?_
 obtain⟨e,a⟩:=jJ a;obtain⟨h,c⟩:=d g a.1 e;exact jK h ⟨Nat.lt_of_lt_of_le a.1 i,(World.cell?_of_block (w:=w) c).trans a.2⟩
theorem vT.keep{B:Nat}{w w':World}{v:Value}{acc:List Ex}(b:vT B w v acc)(k:zK B w w'):vT B w' v acc:=by
 have d:=b.own;obtain⟨ps,h,i,e⟩:=b;refine⟨ps,h,zm i fun j a=>k.2 j (d j a).1 (d j a).2,fun p c=>⟨(e p c).1,(e p c).2.mask k.1 fun j a g=>⟨g,k.2 j a (qQ.1 g).1⟩⟩⟩
theorem vT.app{B L:Nat}{w W w':World}{v v':Value}{acc:List Ex}{e:Ex}{k op n:Int}{s:ByteArray}{u:Value}(i:vT B w v acc)(D:jx L w e (.agg #[.int .i64 k,.int .i64 op,.int .i64 n,.string s,u]))(I:B<=L)(C:∀k,v.ownBlock=some k->k<L)
 (h:Below w.heap.size w W) (t:W.grownBy w' v.ownBlock) (G:xG W v v') (F:w'.ownsRow B 147 5 v' (acc.length+1) ((exCs (Classical.choose i))++[.int .i64 k,.int .i64 op,.int .i64 n,.string s,u])):vT B w' v' (acc++[e]):=by
 obtain⟨z,K,y⟩:=Classical.choose_spec i;generalize Classical.choose i=ps at *;obtain⟨args,rfl,E,H⟩:=exV_at D;have A:w.heap.size<=w'.heap.size:=Nat.le_trans h.size t.size
 have r:∀j,j<w.heap.size->v.ownBlock≠some j->v'.ownBlock≠some j/\w'.heap[j]? =w.heap[j]?:=fun j b x=>by
  refine⟨fun a=>?_,(t.block j (Nat.lt_of_lt_of_le b h.size) (fun e=>x e.symm)).trans (h.block j b)⟩;rcases G with d|⟨g,d,q⟩
  .exact x (d ▸ a)
  .rw[d]at a
   injection a with a;have:=h.size;omega
 refine⟨ps++[(.mk k op n s args,u)],by rw[List.map_append,z];rfl,?_,fun p c=>?_⟩
 .rw[exCs_snoc,List.length_append,show ps.length=acc.length by rw[<-z,List.length_map]]
  exact F
 .rcases List.mem_append.1 c with c|c
  .refine⟨(y p c).1,(y p c).2.mask A fun j b o=>?_⟩
   obtain⟨d,q⟩:=qQ.1 o;obtain⟨l,m⟩:=r j b q;exact⟨qQ.2 ⟨d,l⟩,m⟩
  .obtain rfl:=List.mem_singleton.1 c
   refine⟨E,xL.mask H A fun j b o=>?_⟩;have J:=kR.1 o;obtain⟨l,m⟩:=r j b (fun a=>by have:=C j a;omega);exact⟨qQ.2 ⟨I7,l⟩,m⟩
theorem rdEs_of{a:Nat}{W:World}{g:Nat}:∀(ps:List (Ex × Value)) (o:Nat),(∀j u,(exCs ps)[j]? =some u->CellB a W g (o+j) u)->(∀p∈ps,i64R p.1.n/\xL a W p.2 p.1.args)->jd a W (ps.map (·.1)) g o
 | [],_,_,_=>by
   show jd a W [] g _;rw[jd];trivial
 | p::r,o,hc,hp=>by
   show jd a W (p.1::r.map (·.1)) g o;have e:exCs (p::r)=.int .i64 p.1.kind :: .int .i64 p.1.op :: .int .i64 p.1.n :: .string p.1.name::p.2::exCs r:=by simp[exCs]
   rw[e]at hc;rw[jd];refine⟨?_,rdEs_of r (o+5) (fun j u b=>?_) fun q d=>hp q (List.mem_cons_of_mem _ d)⟩
   .obtain⟨c,h⟩:=hp p (List.mem_cons_self ..)
    obtain⟨⟨k,op,n,i,args⟩,u⟩:=p;rw[RdE];exact⟨hc 0 _ rfl,hc 1 _ rfl,hc 2 _ rfl,hc 3 _ rfl,c,u,hc 4 _ rfl,h⟩
   .have:=hc (j+5) u Ih
    rw[show o+5+j=o+(j+5)by omega];exact this
theorem vT.read{B:Nat}{w:World}{v:Value}{acc:List Ex}(k:vT B w v acc)(t:acc.length<=281474976710656):jA B w acc v:=by
 obtain⟨ps,rfl,x,e⟩:=k
 have z:∀g o u,CellB w.heap.size (mask (yI B v) w) g o u->CellB w.heap.size (mask (low B) w) g o u:=fun g o u b=>by
  obtain⟨y,b⟩:=jJ b;exact jK (kR.2 (qQ.1 y).1) b
 rcases x.2 with⟨rfl,l⟩|⟨g,h,i,rfl,m,c,A,C,D,q⟩
 .have:ps=[]:=List.eq_nil_of_length_eq_zero l
  subst this;exact yp _ _
 .refine⟨_,h,?_,?_,fun _=>⟨g,0,rfl,?_⟩⟩
  .rw[List.length_map]
  .exact t
  .have r:g<w.heap.size:=(Array.getElem?_eq_some_iff.1 c).1
   refine rdEs_of ps 0 (fun j u a=>?_) fun p d=>⟨(e p d).1,(e p d).2.imp z⟩
   refine jK (kR.2 m) ⟨r,?_⟩;rw[Nat.zero_add,cell_of_row w g j i _ (0,0) c];rw[<-q,List.getElem?_take]at a;split at a
   .simpa using a
   .cases a
theorem ex_info:(Tryz.prog.info? 147).map (fun i=>(i.zero,i.size,i.bytes))=some (some ex0V,5,64):=by kernel_rfl
def xx(b:Nat)(w:World):Nat:=match w.cell? ⟨b,1,none⟩with|some (.int _ k)=>k.toNat|_=>0
theorem qt{b:Nat}{V:Value}{all r:List Tok}{a dp:Bool}{w:World}(c:zW b V all r a dp w):xx b w=all.length-r.length:=by
 unfold xx;rw[c.cells.2.1];exact Int.toNat_natCast _
def firstN:Value->Nat
 | .bool true=>1
 | _=>0
def yv(m:Nat)(d:Int)(acc:List Ex)(r:List Tok):PR (List Ex):=if ze [44] r=true then pAL m d acc r.tail else(zN [41] r).bind fun _ r=>.ok acc r
def ArgB(b:Nat)(V:Value)(all:List Tok)(w:World)(T:PR (List Ex))(n:Nat)(d:Int)(a:Value)(wr:World):Prop:=
 ∃(m:Nat) (acc:List Ex) (y:PR Unit),m<=n/\vT w.heap.size wr a acc/\qd b V all w y wr/\T=y.bind (fun _ r=>yv m d acc r)/\(zl y=false->acc.length<=xx b wr)/\acc.length<=2000000
def ArgRel(b:Nat)(V:Value)(all:List Tok)(w:World)(T:PR (List Ex))(n:Nat)(d:Int)(e:List Tok)(c a:Value)(wr:World):Prop:=
 (a=.bool true/\c=.slice none 0 0/\qd b V all w (.ok () e) wr)\/(a=.bool false/\ArgB b V all w T n d c wr)
theorem args_over{b:Nat}{V:Value}{all:List Tok}{x:PR Unit}{w:World}(h:jI b V all x w)(g:zl x=true)(d:Int):
 Calls Tryz.prog 150 #[.pointer (some ⟨b,0,none⟩),.int .i64 d] w fun e w'=>e=.returned (.slice none 0 0)/\qd b V all w x w':=by
 have a:=hid (show qd b V all w x w from⟨h,OffB.refl _ _ _⟩);have j:=hid g;have k:=hid (show zS (⟨#[41]⟩:ByteArray).data.toList x=false by cases x with|ok u r=>cases g|_=>rfl);have i:=hid (show(x.bind fun _ r=>zN (⟨#[41]⟩:ByteArray).data.toList r)=x by cases x with|ok u r=>cases g|_=>rfl);clear h g;go_enter Tryz.func150,Tryz.ntmps150
 go_wp2_with (first
  | (go_at_call 56;(with_reducible refine(zD a.out.st _ k.out).mono ?_);rintro e o ⟨rfl,c⟩;replace a:=hid (a.out.after c);clear c))
 go_loopw [5,6] (fun m l wr=>m=.slice none 0 0/\l=.bool true/\qd b V all w x wr) (fun _ _ _=>0)
 case atStart=>exact⟨rfl,rfl,a.out⟩
 case round=>
  obtain⟨rfl,rfl,c⟩:=hrel;replace a:=hid c;clear c
  go_wp2_with (first
   | (go_at_call 53;(with_reducible refine(zt a.out.st true j.out).mono ?_);rintro e o ⟨rfl,rfl⟩)
   | (go_at_call 58;(with_reducible refine(zY a.out.st _).mono ?_);rintro e p ⟨rfl,c⟩;rw[i.out]at c;replace a:=hid (a.out.after c);clear c))
  go_ret;exact⟨rfl,a.out⟩
theorem args_pre{B:Nat}{w:World}{v:Value}{acc:List Ex}(h:vT B w v acc)(a b c d g:Value)(m:B<=w.heap.size):
 (w.alloc (.cells #[a,b,c,d,g] 147)).ownsRow B 147 5 v acc.length (exCs (Classical.choose h))/\
 (∀j u,[a,b,c,d,g][j]? =some u->(w.alloc (.cells #[a,b,c,d,g] 147)).cell? ((⟨w.heap.size,0,none⟩:Addr).add j)=some u)/\B<=(w.alloc (.cells #[a,b,c,d,g] 147)).heap.size:=by
 obtain⟨k,i,o⟩:=Classical.choose_spec h;refine⟨?_,fun j u l=>?_,Ic⟩
 .have e:(Classical.choose h).length=acc.length:=by rw[<-List.length_map (f:=(·.1)),k]
  rw[e]at i;exact qR i ((Below.refl w.heap.size w).alloc Zr _) Zr
 .rw[show(⟨w.heap.size,0,none⟩:Addr).add j=⟨w.heap.size,j,none⟩by unfold Addr.add;split <;> simp_all]
  exact(cell_of_row _ w.heap.size j _ _ (0,0) (heap_alloc_new w _)).trans (by simpa using l)
def ArgNext(b:Nat)(V:Value)(all:List Tok)(w w':World)(q:Nat)(d:Int)(acc:List Ex)(r:List Tok)(v':Value):Prop:=
 ∃(a:List Ex) (y:PR Unit),vT w.heap.size w' v' a/\qd b V all w y w'/\pAL (q+1) d acc r=y.bind (fun _ r=>yv q d a r)/\(zl y=false->a.length<=xx b w')/\a.length<=2000000/\all.length-r.length<=xx b w'
theorem pAL_got{q:Nat}{d:Int}{acc:List Ex}{r:List Tok}:pAL (q+1) d acc r=(pE q 1 d r).bind fun e r=>yv q d (acc++[e]) r:=by rw[pAL];rfl
theorem args_next{b:Nat}{V:Value}{all:List Tok}{w i w':World}{q:Nat}{d:Int}{acc:List Ex}{r:List Tok}{v v':Value}{L:Nat}{k op n:Int}{s:ByteArray}{u:Value}
 (o:vT w.heap.size i v acc) (J:qd b V all w ((PR.ok () r).bind fun _ r=>pE q 1 d r).un i) (m:qy ((PR.ok () r).bind fun _ r=>pE q 1 d r) fun a=>jx L i a (.agg #[.int .i64 k,.int .i64 op,.int .i64 n,.string s,u])) (hF:zc 1 r (pE q 1 d r))
 (h:(i.alloc (.cells #[.int .i64 k,.int .i64 op,.int .i64 n,.string s,u] 147)).grownBy w' v.ownBlock) (G:xG (i.alloc (.cells #[.int .i64 k,.int .i64 op,.int .i64 n,.string s,u] 147)) v v')
 (F:w'.ownsRow w.heap.size 147 5 v' (acc.length+1) ((exCs (Classical.choose o))++[.int .i64 k,.int .i64 op,.int .i64 n,.string s,u])) (C:∀k,v.ownBlock=some k->k<L) (B:w.heap.size<=L) (U:r.length<=all.length)
 (P:acc.length<=1000000) (Q:acc.length<=all.length-r.length) (N:TokH b V all w) (R:b<w.heap.size):ArgNext b V all w w' q d acc r v':=by
 have D:Below i.heap.size i (i.alloc (.cells #[.int .i64 k,.int .i64 op,.int .i64 n,.string s,u] 147)):=Zb.alloc Zr _
 have K:∀x,qd b V all w x i->qd b V all w x w':=fun x c=>by
  have t:=c.alloc (.cells #[.int .i64 k,.int .i64 op,.int .i64 n,.string s,u] 147)
  have M:v.ownBlock≠some b:=fun e=>by
   have O:=(o.own b e).2;omega
  have I:OffB b w.heap.size w w':=t.off.trans (OffB.mk' h.os h.tape h.output h.size t.st.lt fun j S T=>h.block j (by have:=t.off.size;omega) (fun e=>by
   have:=(o.own j e.symm).2
   omega))
  exact⟨t.st.move N I (h.block b t.st.lt (fun e=>M e.symm)),I⟩
 have g:=K _ J;cases c:pE q 1 d r with
 | ok e r2=>
   have l:((PR.ok () r).bind fun _ r=>pE q 1 d r)=.ok e r2:=c;rw[l]at m g;rw[c]at hF;have y:zH 1 r r2:=hF;have z:zW b V all r2 false false w':=g.st;have p:=qt z;have H:=y.2.2;refine⟨acc++[e],.ok () r2,o.app m B C D h G F,g,QV,fun _=>?_,?_,?_⟩
   .rw[p,List.length_append]
    simp;omega
   .rw[List.length_append]
    simp;omega
   .rw[p]
    omega
 | bad r2=>
   have l:((PR.ok () r).bind fun _ r=>pE q 1 d r)=.bad r2:=c;rw[l]at m g;rw[c]at hF;have y:zH 0 r r2:=hF;have z:zW b V all r2 true false w':=g.st;have p:=qt z;have H:=y.2.2;obtain⟨e,E⟩:=m;refine⟨acc++[e],.bad r2,o.app E B C D h G F,g,QV,(fun A=>by cases A),?_,?_⟩
   .rw[List.length_append]
    simp;omega
   .rw[p]
    omega
 | deep r2=>
   have l:((PR.ok () r).bind fun _ r=>pE q 1 d r)=.deep r2:=c;rw[l]at m g;rw[c]at hF;have y:zH 0 r r2:=hF;have z:zW b V all r2 false true w':=g.st;have p:=qt z;have H:=y.2.2;obtain⟨e,E⟩:=m;refine⟨acc++[e],.deep r2,o.app E B C D h G F,g,QV,(fun A=>by cases A),?_,?_⟩
   .rw[List.length_append]
    simp;omega
   .rw[p]
    omega
 | out=>
   have l:((PR.ok () r).bind fun _ r=>pE q 1 d r)=.out:=c;rw[l]at g;exact absurd g.st id
theorem ArgNext.rel{b:Nat}{V:Value}{all:List Tok}{w w':World}{q n:Nat}{d:Int}{acc:List Ex}{r:List Tok}{v':Value}{T:PR (List Ex)}(c:ArgNext b V all w w' q d acc r v')(l:q<=n)(k:T=pAL (q+1) d acc r):ArgB b V all w T n d v' w':=by
 obtain⟨a,y,e,g,h,i,j,_⟩:=c;exact⟨q,a,y,l,e,g,k.trans h,i,j⟩
theorem ArgNext.at{b:Nat}{V:Value}{all:List Tok}{w w':World}{q:Nat}{d:Int}{acc:List Ex}{r:List Tok}{v':Value}(a:ArgNext b V all w w' q d acc r v'):all.length-r.length<=xx b w':=by
 obtain⟨e,y,g,h,i,j,k,c⟩:=a;exact c
theorem xZ{b:Nat}{V:Value}{all r:List Tok}{w w':World}(a:qd b V all w (.ok () r) w'):xx b w'=all.length-r.length/\r.length<=all.length/\all.length<=1000000/\zk r/\0<r.length:=by
 have e:zW b V all r false false w':=a.st;obtain⟨_,⟨_,_,_,_,_,_,d,_⟩,g,c⟩:=e;exact⟨qt a.st,suffix_len g,d,c,c.pos⟩
theorem arg_end{m:Nat}{d:Int}{acc:List Ex}{y:PR Unit}(a:zS [44] y=false):y.bind (fun _ r=>yv m d acc r)=y.bind fun _ r=>(zN [41] r).bind fun _ r=>.ok acc r:=by
 cases y with
 | ok u r=>
   show yv m d acc r=_;unfold yv;rw[if_neg Ui];rfl
 | _=>rfl
theorem arg_gave{b:Nat}{V:Value}{all:List Tok}{w W:World}{y:PR Unit}{acc:List Ex}{v:Value}{L:Nat}(c:qd b V all w (y.bind fun _ r=>zN [41] r) W)(a:jA L W acc v):
 qM b V all w (y.bind fun _ r=>(zN [41] r).bind fun _ r=>.ok acc r) (jA L) (.returned v) W:=by
 refine⟨v,rfl,?_,?_⟩
 .rw[jE]
  simp only[ki];exact c
 .cases y with
  | ok u r=>exact yd a
  | bad r=>exact⟨acc,a⟩
  | deep r=>exact⟨acc,a⟩
  | out=>trivial
theorem args_live{b:Nat}{V:Value}{all r:List Tok}{w:World}{n:Nat}{d:Int}(av:∀m,m<=n->CE b V all m 1 d)(M:zW b V all r false false w)(ae:zG (pA (n+1) d r)):
 Calls Tryz.prog 150 #[.pointer (some ⟨b,0,none⟩),.int .i64 d] w (qM b V all w (pA (n+1) d r) (jA w.heap.size)):=by
 have a:=hid (show qd b V all w (.ok () r) w from⟨M,OffB.refl _ _ _⟩);have i:=M.lt;have ab:=hid M.2.1;cases hs:ze [41] r with
 | true=>
   have L:pA (n+1) d r=.ok [] r.tail:=by rw[pA,if_pos hs]
   rw[L];have ak:=hid (show zS (⟨#[41]⟩:ByteArray).data.toList (PR.ok () r)=true from hs);clear M ae hs L;go_enter Tryz.func150,Tryz.ntmps150
   go_wp2_with (first
    | (go_at_call 56;(with_reducible refine(zi a.out.st _ ak.out).mono ?_);rintro e w1 ⟨rfl,c⟩;replace a:=hid (a.out.after c);clear c))
   go_ret;exact⟨_,rfl,a.out,yp _ _⟩
 | false=>
   have L:pA (n+1) d r=pAL n d [] r:=by rw[pA,if_neg (by rw[hs];decide)]
   rw[L]at ae ⊢;have ak:=hid (show zS (⟨#[41]⟩:ByteArray).data.toList (PR.ok () r)=false from hs);have aa:=hid ae;have ar:=hid av;clear M ae hs L av;go_enter Tryz.func150,Tryz.ntmps150
   go_wp2_with (first
    | (go_at_call 56;(with_reducible refine(zD a.out.st _ ak.out).mono ?_);rintro e w1 ⟨rfl,c⟩;replace a:=hid (a.out.after c);clear c))
   go_loopw [5,6] (fun aJ am wr=>ArgRel b V all w (pAL n d [] r) n d r aJ am wr) (fun _ am wr=>2*(all.length-xx b wr)+firstN am)
   case atStart=>exact .inl ⟨rfl,rfl,a.out⟩
   case round=>
    obtain⟨aA,aw,ax,ay,az⟩:=info_parts ex_info;have j:=hid (And.intro aw (And.intro ax (And.intro ay az)));clear aw ax ay az;rcases hrel with⟨rfl,rfl,c⟩|⟨rfl,m,acc,y,aO,z,c,ad,h,aM⟩
    .replace a:=hid c
     have C:=hid c;obtain⟨A,aG,aE,B,aH⟩:=xZ c
     obtain⟨q,rfl⟩:∃q,n=q+1:=by
      cases n with
      | zero=>have:=aa.out;rw[pAL]at this;exact absurd this id
      | succ q=>exact⟨q,rfl⟩
     have h:([]:List Ex).length<=1000000:=Ia
     obtain⟨acc,N⟩:∃acc:List Ex,acc=[]:=⟨_,rfl⟩
     rw[<-N]at h;have aN:acc.length=0:=by rw[N];rfl
     have K:=hid (show pAL (q+1) d [] r=pAL (q+1) d acc r by rw[N]);have g:=hid (show vT w.heap.size wr (.slice none 0 0) acc by rw[N];exact vT.nil _ _);have H:=hid (show zG ((PR.ok () r).bind fun _ r=>pE q 1 d r)by have t:=aa.out;rw[pAL_got]at t;exact zu t);have D:=hid (qW (n:=q) (lev:=1) (d:=d) B);have aj:=hid A;clear c A N B;go_wp2_with
     (first
       | (go_at_call 53;(with_reducible refine(zt a.out.st false rfl).mono ?_);rintro e w1 ⟨rfl,rfl⟩)
       | (go_at_call 126;(with_reducible refine((ar.out q I7).call a.out.st H.out).mono ?_);rintro e ai ⟨v,rfl,c,u⟩
          obtain⟨S,T,U,W,X,Y,Z,rfl⟩:=qX u H.out;have E:=hid u;have o:=hid (g.out.keep (zK.did c i));have G:=hid g.out.own;replace a:=hid (a.out.after c);have p:=hid (args_pre o.out (.int .i64 S) (.int .i64 T) (.int .i64 U) (.string W) (.slice X Y Z) QH)
          clear c u)
       | (at_builtin;refine jC rfl (.tmp 19) (.tmp 23) _ rfl w.heap.size 147 aA _ 5 64 Tryz.underlying137 j.out.1 j.out.2.1 j.out.2.2.1 j.out.2.2.2 rfl I7 (.slice none 0 0) acc.length _ rfl (by exact p.out.1) ⟨ai.heap.size,0,none⟩ 1 1 [.int .i64 S,.int .i64 T,.int .i64 U,.string W,.slice X Y Z] rfl rfl (by exact p.out.2.1) Ig If I7 (by exact p.out.2.2) I7 ?_;intro aK aL P O Q;have I:=hid P;have F:=hid O;have J:=hid Q;clear P O Q))
     go_roundw
     case rel=>
      exact .inr ⟨rfl,(args_next (d:=d) o.out a.out E.out D.out F.out J.out I.out (fun k x=>(G.out k x).1) QG I7 h I7 ab.out i).rel (n:=q+1) I7 K.out⟩
     case measure=>
      exact Oq
    .obtain⟨aF,R⟩:∃v:Bool,zS [44] y=v:=⟨_,rfl⟩
     cases aF with
     | true=>
       obtain⟨ag,rfl,af⟩:=vw R;obtain⟨A,aG,aE,B,aH⟩:=xZ c
       have l:pAL n d [] r=pAL m d acc ag.tail:=by
        rw[ad];show yv m d acc ag=_;unfold yv;rw[if_pos af]
       obtain⟨q,rfl⟩:∃q,m=q+1:=by
        cases m with
        | zero=>have:=aa.out;rw[l,pAL]at this;exact absurd this id
        | succ q=>exact⟨q,rfl⟩
       have aD:=h rfl;rw[A]at aD;have aI:=jN B;have aj:=hid A;have al:=hid (show zS (⟨#[44]⟩:ByteArray).data.toList (PR.ok () ag)=true from af);have ao:=B.sign af;obtain⟨ah,ap⟩:∃ah,ah=ag.tail:=⟨_,rfl⟩
       rw[<-ap]at l aI ao;have aB:=hid ap;have K:=hid l;have H:=hid (show zG ((PR.ok () ah).bind fun _ r=>pE q 1 d r)by have t:=aa.out;rw[l,pAL_got]at t;exact zu t);have D:=hid (qW (n:=q) (lev:=1) (d:=d) ao);have g:=hid z;replace a:=hid c;obtain⟨aq,au,rfl⟩:=z.form;have h:acc.length<=1000000:=I7
       clear c z ad l A R af B ao ap;go_wp2_with
       (first
         | (go_at_call 53;(with_reducible refine(zt a.out.st false rfl).mono ?_);rintro e w1 ⟨rfl,rfl⟩)
         | (go_at_call 56;(with_reducible refine(zi a.out.st _ al.out).mono ?_);rintro e w1 ⟨rfl,c⟩
            have an:qd b V all wr (.ok () ah) w1:=by rw[aB.out];exact c
            replace g:=hid (g.out.keep (zK.did an i));replace a:=hid (a.out.after an);have C:=a
            clear c an)
         | (go_at_call 126;(with_reducible refine((ar.out q I7).call a.out.st H.out).mono ?_);rintro e ai ⟨v,rfl,c,u⟩
            obtain⟨S,T,U,W,X,Y,Z,rfl⟩:=qX u H.out;have E:=hid u;have o:=hid (g.out.keep (zK.did c i));have G:=hid g.out.own;replace a:=hid (a.out.after c);have p:=hid (args_pre o.out (.int .i64 S) (.int .i64 T) (.int .i64 U) (.string W) (.slice X Y Z) QH)
            clear c u)
         | (at_builtin;refine jC rfl (.tmp 19) (.tmp 23) _ rfl w.heap.size 147 aA _ 5 64 Tryz.underlying137 j.out.1 j.out.2.1 j.out.2.2.1 j.out.2.2.2 rfl I7 (.slice aq acc.length au) acc.length _ rfl (by exact p.out.1) ⟨ai.heap.size,0,none⟩ 1 1 [.int .i64 S,.int .i64 T,.int .i64 U,.string W,.slice X Y Z] rfl rfl (by exact p.out.2.1) Ig If I7 (by exact p.out.2.2) I7 ?_;intro aK aL P O Q;have I:=hid P;have F:=hid O;have J:=hid Q;clear P O Q))
       go_roundw
       case rel=>
        exact .inr ⟨rfl,(args_next (d:=d) o.out a.out E.out D.out F.out J.out I.out (fun k x=>(G.out k x).1) QG I7 h I7 ab.out i).rel (n:=n) I7 K.out⟩
       case measure=>
        exact Oq
     | false=>
       have al:=hid (show zS (⟨#[44]⟩:ByteArray).data.toList y=false from R);have l:=ad.trans (arg_end (m:=m) (d:=d) (acc:=acc) R);have K:=hid l;have g:=hid z;replace a:=hid c;obtain⟨aq,au,rfl⟩:=z.form;clear c z ad l R h
       go_wp2_with (first
        | (go_at_call 56;(with_reducible refine(zD a.out.st _ al.out).mono ?_);rintro e w1 ⟨rfl,c⟩
           replace g:=hid (g.out.keep (zK.did c i));replace a:=hid (a.out.after c)
           clear c)
        | (go_at_call 58;(with_reducible refine(zY a.out.st _).mono ?_);rintro e ai ⟨rfl,c⟩
           replace g:=hid (g.out.keep (zK.did c i));replace a:=hid (a.out.after c)
           clear c))
       go_ret;rw[K.out];exact arg_gave a.out (g.out.read I7)
theorem args_any{b:Nat}{V:Value}{all:List Tok}{n:Nat}{d:Int}(h:∀m,m<=n->CE b V all m 1 d):CA b V all (n+1) d:=by
 intro w x a i;cases x with
 | ok u r=>exact args_live h a i
 | bad r=>exact(args_over a rfl d).mono fun e w' ⟨g,c⟩=>⟨_,g,c,[],yp _ _⟩
 | deep r=>exact(args_over a rfl d).mono fun e w' ⟨g,c⟩=>⟨_,g,c,[],yp _ _⟩
 | out=>exact absurd a id
theorem expr_top{b:Nat}{V:Value}{all:List Tok}{n:Nat}{d:Int}(m:CU b V all n d):CE b V all (n+1) 11 d:=by
 intro w x k h
 have j:(x.bind fun _ r=>pE (n+1) 11 d r)=x.bind fun _ r=>pU n d r:=by
  cases x with
  | ok u r=>show pE (n+1) 11 d r=pU n d r;rw[pE,if_pos I8]
  | _=>rfl
 rw[j]at h ⊢;have c:=hid (je.start k);have i:=hid h;have C:=hid m;clear k h m j;go_enter Tryz.func126,Tryz.ntmps126
 go_wp2_with (first
  | (go_at_call 148;(with_reducible refine(C.out.call c.out.st i.out).mono ?_);rintro e O ⟨v,rfl,l,g⟩
     obtain⟨o,p,q,t,y,z,A,rfl⟩:=qX g i.out;have H:=c.out.size;have B:=hid g;replace c:=hid (c.out.step l);clear l g
     obtain⟨⟨I,J,K,L,M⟩,N⟩:=c.out.own))
 obtain⟨D,f1,E,f3,F⟩:=c.out.read (.int .i64 o) (.int .i64 p) (.int .i64 q) (.string t) (.slice y z A);refine bodyPost_ret (v:=.agg #[.int .i64 o,.int .i64 p,.int .i64 q,.string t,.slice y z A]) (by simp[results,Tryz.results126,go_sem,D,f1,E,f3,F]) rfl ?_;exact c.out.fin rfl (B.out.imp fun a G=>jx.writ G H _ _ _ _ _)
def aMask(L g:Nat):Nat->Bool:=fun k=>decide (k<L) || k == g
theorem uv{L g k:Nat}:aMask L g k=false↔L<=k/\k≠g:=by
 unfold aMask;simp[Bool.or_eq_false_iff]
def Holds(L g:Nat)(w:World)(a:Ex):Prop:=
 ∃k o n s b m c,w.heap[g]? =some (.cells #[.int .i64 k,.int .i64 o,.int .i64 n,.string s,.slice b m c] 147 (0,0))/\ExV w.heap.size (mask (aMask L g) w) a (.agg #[.int .i64 k,.int .i64 o,.int .i64 n,.string s,.slice b m c])
def ExprRel(b:Nat)(V:Value)(all:List Tok)(w:World)(T:PR Ex)(n:Nat)(lev d:Int)(g:Nat)(wr:World):Prop:=
 ∃(m:Nat) (a:Ex) (y:PR Unit),m<=n/\je b V all w y wr/\Holds (w.heap.size+1) g wr a/\T=y.bind fun _ r=>pL m lev d a r
theorem yw{L:Nat}{b:World}{a:Ex}{k o n:Int}{s:ByteArray}{e:Option Addr}{m c:Nat}(h:jx L b a (.agg #[.int .i64 k,.int .i64 o,.int .i64 n,.string s,.slice e m c])):
 Holds L b.heap.size (b.alloc (.cells #[.int .i64 k,.int .i64 o,.int .i64 n,.string s,.slice e m c] 147)) a:=by
 refine⟨k,o,n,s,e,m,c,heap_alloc_new b _,?_⟩;refine h.imp fun g o u d=>?_
 obtain⟨j,d⟩:=jJ d;have i:=d.1;refine jK (uv.2 ⟨kR.1 j,I7⟩) ⟨I9,?_⟩;exact(World.cell?_of_block (w:=b) (Below.heap_alloc b _ g i)).trans d.2
theorem expr_start{b:Nat}{V:Value}{all:List Tok}{w h:World}{X:PR Ex}{n:Nat}{lev d:Int}{k o q:Int}{s:ByteArray}{j:Option Addr}{m c:Nat}(e:je b V all w X.un h)
 (g:qy X fun a=>jx (w.alloc yB).heap.size h a (.agg #[.int .i64 k,.int .i64 o,.int .i64 q,.string s,.slice j m c])):
 ExprRel b V all w (X.bind fun a r=>pL n lev d a r) n lev d h.heap.size (h.alloc (.cells #[.int .i64 k,.int .i64 o,.int .i64 q,.string s,.slice j m c] 147)):=by
 have l:(w.alloc yB).heap.size=w.heap.size+1:=zA _ _;rw[l]at g;cases X with
 | ok a r=>exact⟨n,a,.ok () r,Nat.le_refl _,e.alloc _,yw g,rfl⟩
 | bad r=>
   obtain⟨a,i⟩:=g;exact⟨n,a,.bad r,Nat.le_refl _,e.alloc _,yw i,rfl⟩
 | deep r=>
   obtain⟨a,i⟩:=g;exact⟨n,a,.deep r,Nat.le_refl _,e.alloc _,yw i,rfl⟩
 | out=>exact absurd e.st id
theorem expr_end{lev d:Int}{y:PR Unit}{T:PR Ex}{m:Nat}{a:Ex}(i:opX lev y=0)(h:T=y.bind fun _ r=>pL m lev d a r)(c:zG T):T.un=y/\∀P:Ex->Prop,P a->qy T P:=by
 subst h;cases y with
 | ok u r=>
   cases m with
   | zero=>exact absurd (show zG (pL 0 lev d a r)from c) (by rw[pL];exact id)
   | succ m=>
     have e:pL (m+1) lev d a r=.ok a r:=by rw[pL,if_pos (show opAt lev r=0 from i)]
     show(pL (m+1) lev d a r).un=_/\_;have g:((PR.ok u r).bind fun _ r=>pL (m+1) lev d a r)=.ok a r:=e;rw[g,e];exact⟨rfl,fun P b=>b⟩
 | bad r=>exact⟨rfl,fun P b=>⟨a,b⟩⟩
 | deep r=>exact⟨rfl,fun P b=>⟨a,b⟩⟩
 | out=>exact absurd c id
theorem holds_end{b g:Nat}{V:Value}{all:List Tok}{w wr e:World}{x:PR Unit}{a:Ex}{v:Value}{h i j l m:Value}(p:ExV wr.heap.size (mask (aMask (w.heap.size+1) g) wr) a v)(d:qd b V all wr x e)(y:b<wr.heap.size)(z:b<=w.heap.size):
 jx w.heap.size (writ e w.heap.size h i j l m) a v:=by
 refine p.imp fun k o u c=>?_
 obtain⟨q,c⟩:=jJ c;obtain⟨r,t⟩:=uv.1 q;refine jK (kR.2 I7) ⟨?_,?_⟩
 .rw[kq]
  exact Nat.lt_of_lt_of_le c.1 d.off.size
 .refine(World.cell?_of_block (w:=wr) ?_).trans c.2
  exact(writ_other (show k≠w.heap.size by omega) _ _ _ _ _).trans (d.off.block c.1 I7)
theorem opX_ok{lev o:Int}{y:PR Unit}(a:opX lev y=o)(b:¬o=0):∃r,y=.ok () r/\opAt lev r=o:=by
 cases y with
 | ok u r=>exact⟨r,rfl,a⟩
 | bad r=>exact absurd a.symm b
 | deep r=>exact absurd a.symm b
 | out=>exact absurd a.symm b
theorem cur_next{b:Nat}{V:Value}{all r:List Tok}{w W:World}{e:Int}(a:je b V all w (.ok () r) W)(g:uO r≠3)(h:((all.length-r.length:Nat):Int)=e):je b V all w (.ok () r.tail) (W.setCell ⟨b,1,none⟩ (.int .i64 (e+1))):=by
 have d:zW b V all r false false W:=a.st;have c:=d.next g;rw[h]at c;exact a.step ⟨c,(OffB.refl b _ W).setb d.lt 1 _⟩
theorem cur_at{b:Nat}{V:Value}{all r:List Tok}{w W:World}{c:Int}(d:je b V all w (.ok () r) W)(e:((all.length-r.length:Nat):Int)=c):W.cell? ⟨b,1,none⟩=some (.int .i64 c)/\W.frozen? ⟨b,1,none⟩=false:=by
 have a:zW b V all r false false W:=d.st;exact⟨e ▸ a.cells.2.1,a.1.frozen 1⟩
theorem row_off{b g:Nat}{W:World}{o:Obj}(a:W.heap[g]? =some o)(c:g≠b)(u:Value):(W.setCell ⟨b,1,none⟩ u).heap[g]? =some o:=(Below.heap_setCell W _ u g (by show g≠b;exact c)).trans a
theorem expr_round{b g:Nat}{V:Value}{all r:List Tok}{w wr I c:World}{x:PR Unit}{a:Ex}{T:PR Ex}{q:Nat}{lev d o R:Int}{A B C i j l:Int}{D m:ByteArray}{v h:Option Addr}{E F p t:Nat}
 (ae:ExV wr.heap.size (mask (aMask (w.heap.size+1) g) wr) a (.agg #[.int .i64 A,.int .i64 B,.int .i64 C,.string D,.slice v E F])) (S:qd b V all wr x I)
 (U:qd b V all (I.setCell ⟨b,1,none⟩ (.int .i64 (R+1))) ((PR.ok () r).bind fun _ r=>pE q (lev+1) d r).un c) (ad:je b V all w ((PR.ok () r).bind fun _ r=>pE q (lev+1) d r).un c) (Y:c.heap[g]? =some (.cells #[.int .i64 A,.int .i64 B,.int .i64 C,.string D,.slice v E F] 147 (0,0)))
 (G:qy ((PR.ok () r).bind fun _ r=>pE q (lev+1) d r) fun e=>jx (I.setCell ⟨b,1,none⟩ (.int .i64 (R+1))).heap.size c e (.agg #[.int .i64 i,.int .i64 j,.int .i64 l,.string m,.slice h p t]))
 (N:T=(pE q (lev+1) d r).bind fun e r=>pL q lev d (.mk 5 o 0 bE [a,e]) r) (ar:g<wr.heap.size) (av:w.heap.size<wr.heap.size) (aq:g≠b) (ao:b<w.heap.size) (ai:w.heap.size<g):
 (∀n,q<=n->ExprRel b V all w T n lev d g (((nest c g (.int .i64 5) (.int .i64 o) (.int .i64 0) (.string ⟨#[]⟩) (.slice (some ⟨c.heap.size+1,0,none⟩) 2 2)).alloc (.cells #[.int .i64 i,.int .i64 j,.int .i64 l,.string m,.slice h p t] 147)).alloc (.cells #[.int .i64 A,.int .i64 B,.int .i64 C,.string D,.slice v E F,.int .i64 i,.int .i64 j,.int .i64 l,.string m,.slice h p t] 147)))/\
 qd b V all w ((PR.ok () r).bind fun _ r=>pE q (lev+1) d r).un (((nest c g (.int .i64 5) (.int .i64 o) (.int .i64 0) (.string ⟨#[]⟩) (.slice (some ⟨c.heap.size+1,0,none⟩) 2 2)).alloc (.cells #[.int .i64 i,.int .i64 j,.int .i64 l,.string m,.slice h p t] 147)).alloc (.cells #[.int .i64 A,.int .i64 B,.int .i64 C,.string D,.slice v E F,.int .i64 i,.int .i64 j,.int .i64 l,.string m,.slice h p t] 147)):=by
 obtain⟨W,H⟩:∃W,W=(((nest c g (.int .i64 5) (.int .i64 o) (.int .i64 0) (.string ⟨#[]⟩) (.slice (some ⟨c.heap.size+1,0,none⟩) 2 2)).alloc (.cells #[.int .i64 i,.int .i64 j,.int .i64 l,.string m,.slice h p t] 147)).alloc (.cells #[.int .i64 A,.int .i64 B,.int .i64 C,.string D,.slice v E F,.int .i64 i,.int .i64 j,.int .i64 l,.string m,.slice h p t] 147)):=⟨_,rfl⟩
 rw[<-H];have u:je b V all w ((PR.ok () r).bind fun _ r=>pE q (lev+1) d r).un W:=H ▸ (((ad.nest ai _ _ _ _ _).alloc _).alloc _);have L:(nest c g (.int .i64 5) (.int .i64 o) (.int .i64 0) (.string ⟨#[]⟩) (.slice (some ⟨c.heap.size+1,0,none⟩) 2 2)).heap.size=c.heap.size:=kq _ _ _ _ _ _ _;have ah:W.heap.size=c.heap.size+2:=by rw[H,zA,zA,L]
 have ap:g<c.heap.size:=(Array.getElem?_eq_some_iff.1 Y).1;have an:I.heap.size<=c.heap.size:=by have:=U.off.size;rw[kL]at this;exact this
 have au:wr.heap.size<=I.heap.size:=S.off.size
 have X:∀k,k<c.heap.size->k≠g->W.heap[k]? =c.heap[k]?:=fun k y Q=>by
  rw[H,Below.heap_alloc _ _ _ (by rw[zA,L];omega),Below.heap_alloc _ _ _ (by rw[L];exact y)];exact writ_other Q _ _ _ _ _
 have ak:∀k,k<wr.heap.size->k≠g->k≠b->W.heap[k]? =wr.heap[k]?:=fun k y Q P=>by
  rw[X k I7 Q,U.off.block (by rw[kL];omega) P,Below.heap_setCell _ _ _ _ (by show k≠b;exact P),S.off.block y P]
 have af:W.heap[g]? =some (.cells #[.int .i64 5,.int .i64 o,.int .i64 0,.string ⟨#[]⟩,.slice (some ⟨c.heap.size+1,0,none⟩) 2 2] 147 (0,0)):=by
  rw[H];exact qE (qE (writ_row Y _ _ _ _ _) _) _
 have ag:W.heap[c.heap.size+1]? =some (.cells #[.int .i64 A,.int .i64 B,.int .i64 C,.string D,.slice v E F,.int .i64 i,.int .i64 j,.int .i64 l,.string m,.slice h p t] 147 (0,0)):=by
  have:=heap_alloc_new ((nest c g (.int .i64 5) (.int .i64 o) (.int .i64 0) (.string ⟨#[]⟩) (.slice (some ⟨c.heap.size+1,0,none⟩) 2 2)).alloc (.cells #[.int .i64 i,.int .i64 j,.int .i64 l,.string m,.slice h p t] 147)) (.cells #[.int .i64 A,.int .i64 B,.int .i64 C,.string D,.slice v E F,.int .i64 i,.int .i64 j,.int .i64 l,.string m,.slice h p t] 147);rw[zA,L]at this;rw[H];exact this
 have O:∀e,jx (I.setCell ⟨b,1,none⟩ (.int .i64 (R+1))).heap.size c e (.agg #[.int .i64 i,.int .i64 j,.int .i64 l,.string m,.slice h p t])->Holds (w.heap.size+1) g W (.mk 5 o 0 bE [a,e]):=fun e J=>by
  obtain⟨args,rfl,K,al⟩:=exV_at ae;obtain⟨am,rfl,aj,Z⟩:=exV_at J;rw[kL]at Z;refine⟨5,o,0,⟨#[]⟩,some ⟨c.heap.size+1,0,none⟩,2,2,af,_,rfl,⟨IY,IW⟩,?_⟩;refine slE_at2 (w:=mask (aMask (w.heap.size+1) g) W) ((mask_in (uv.2 ⟨I7,I7⟩)).trans ag) (by rw[ah];omega) K ?_ aj ?_
  .refine xL.mask (w':=W) al I7 fun k y M=>⟨M,?_⟩
   obtain⟨aa,ab⟩:=uv.1 M;exact ak k y ab I7
  .refine xL.mask (w':=W) Z I7 fun k y M=>?_
   have aa:=kR.1 M;exact⟨uv.2 ⟨I7,I7⟩,X k y I7⟩
 refine⟨fun n K=>?_,u.did⟩;cases hx:pE q (lev+1) d r with
 | ok e r2=>
   have z:((PR.ok () r).bind fun _ r=>pE q (lev+1) d r)=.ok e r2:=hx;rw[z]at G u;exact⟨q,_,.ok () r2,K,u,O e G,by rw[N,hx];rfl⟩
 | bad r2=>
   have z:((PR.ok () r).bind fun _ r=>pE q (lev+1) d r)=.bad r2:=hx;rw[z]at G u;obtain⟨e,J⟩:=G;exact⟨q,_,.bad r2,K,u,O e J,by rw[N,hx];rfl⟩
 | deep r2=>
   have z:((PR.ok () r).bind fun _ r=>pE q (lev+1) d r)=.deep r2:=hx;rw[z]at G u;obtain⟨e,J⟩:=G;exact⟨q,_,.deep r2,K,u,O e J,by rw[N,hx];rfl⟩
 | out=>
   have z:((PR.ok () r).bind fun _ r=>pE q (lev+1) d r)=.out:=hx;rw[z]at u;exact absurd u.st id
theorem meas_lt{a b X B:Nat}(c:b<=X)(d:a-b<a-B):a-X<a-B:=I7
theorem expr_at{b:Nat}{V:Value}{all r:List Tok}{w W:World}{q:Nat}{lev d:Int}(a:qd b V all w ((PR.ok () r).bind fun _ r=>pE q lev d r).un W)(hF:zc 1 r (pE q lev d r))(i:zk r):all.length-r.length<=xx b W:=by
 cases hx:pE q lev d r with
 | ok e r2=>
   have c:((PR.ok () r).bind fun _ r=>pE q lev d r)=.ok e r2:=hx;rw[c]at a;rw[hx]at hF;have g:zW b V all r2 false false W:=a.st;have h:=(show zH 1 r r2 from hF).2.2;rw[qt g];omega
 | bad r2=>
   have c:((PR.ok () r).bind fun _ r=>pE q lev d r)=.bad r2:=hx;rw[c]at a;rw[hx]at hF;have g:zW b V all r2 true false W:=a.st;have h:=(show zH 0 r r2 from hF).2.2;rw[qt g];omega
 | deep r2=>
   have c:((PR.ok () r).bind fun _ r=>pE q lev d r)=.deep r2:=hx;rw[c]at a;rw[hx]at hF;have g:zW b V all r2 false true W:=a.st;have h:=(show zH 0 r r2 from hF).2.2;rw[qt g];omega
 | out=>
   have c:((PR.ok () r).bind fun _ r=>pE q lev d r)=.out:=hx;rw[c]at a;exact absurd a.st id
theorem expr_lev{b:Nat}{V:Value}{all:List Tok}{n:Nat}{lev d:Int}(a6:1<=lev)(a7:lev<=10)(ah:∀m,m<=n->CE b V all m (lev+1) d):CE b V all (n+1) lev d:=by
 intro w x I D
 have ag:(x.bind fun _ r=>pE (n+1) lev d r)=(x.bind fun _ r=>pE n (lev+1) d r).bind fun a r=>pL n lev d a r:=by
  cases x with
  | ok u r=>show pE (n+1) lev d r=_;rw[pE,if_neg I7];rfl
  | _=>rfl
 rw[ag]at D ⊢;have c:=hid (je.start I);have A:=hid D;have Z:=hid (zu D);have W:=hid ah;have aF:=I.lt;clear I D ah ag;go_enter Tryz.func126,Tryz.ntmps126
 go_wp2_with (first
  | (go_at_call 126;(with_reducible refine((W.out n Zr).call c.out.st Z.out).mono ?_);rintro e k ⟨v,rfl,g,i⟩
     obtain⟨P,Q,R,S,bl,bm,bn,rfl⟩:=qX i Z.out;have be:=c.out.size;have G:=hid i;replace c:=hid (c.out.step g);have bf:=c.out.size
     clear g i))
 have ae:=hid (expr_start (n:=n) (lev:=lev) (d:=d) c.out G.out);have a2:b<k.heap.size:=c.out.st.lt;obtain⟨T,K⟩:∃T,((x.bind fun _ r=>pE n (lev+1) d r).bind fun a r=>pL n lev d a r)=T:=⟨_,rfl⟩
 rw[K]at ae A;have aB:=hid K;clear K
 go_loopw [8] (fun _ wr=>ExprRel b V all w T n lev d k.heap.size wr) (fun _ wr=>all.length-xx b wr)
 case atStart=>exact ae.out
 case round=>
  obtain⟨m,a,y,a8,J,⟨P,Q,R,S,U,au,av,O,ak⟩,aj⟩:=hrel;replace c:=hid J;have af:=hid ak;have ab:=hid O;have l:=hid aj;have aI:=J.st.lt;obtain⟨o,aq⟩:∃o,opX lev y=o:=⟨_,rfl⟩
  have B:=hid aq;have t:k.heap.size≠b:=I7
  have bg:=c.out.size;have ao:k.heap.size<wr.heap.size:=(Array.getElem?_eq_some_iff.1 O).1;clear J ak aj aq O;by_cases j:o=0
  .subst j
   go_wp2_with (first
    | (go_at_call 149;(with_reducible refine(op_any c.out.st lev 0 B.out).mono ?_);rintro e aw ⟨rfl,g⟩
       have F:=hid g;have z:=q9 g.off ao t ab.out;obtain⟨⟨aK,aL,aM,aN,aO⟩,aP⟩:=zP z;replace c:=hid (c.out.step g);clear g z
       obtain⟨⟨aT,aU,aV,aW,aX⟩,aZ⟩:=c.out.own))
   obtain⟨aC,f1,aD,f3,aE⟩:=c.out.read (.int .i64 P) (.int .i64 Q) (.int .i64 R) (.string S) (.slice U au av);refine bodyPost_ret (v:=.agg #[.int .i64 P,.int .i64 Q,.int .i64 R,.string S,.slice U au av]) (by simp[results,Tryz.results126,go_sem,aC,f1,aD,f3,aE]) rfl ?_;rw[aB.out];obtain⟨p,h⟩:=expr_end B.out l.out A.out;exact c.out.fin p (h _ (holds_end af.out F.out aI I7))
  .obtain⟨r,rfl,N⟩:=opX_ok B.out j
   obtain⟨q,rfl⟩:∃q,m=q+1:=by
    cases m with
    | zero=>have p:=l.out;have h:=A.out;rw[p]at h;exact absurd (show zG (pL 0 lev d a r)from h) (by rw[pL];exact id)
    | succ q=>exact⟨q,rfl⟩
   have L:T=(pE q (lev+1) d r.tail).bind fun e r=>pL q lev d (.mk 5 o 0 bE [a,e]) r:=by
    rw[l.out];show pL (q+1) lev d a r=_;rw[pL,N,if_neg j]
   obtain⟨al,ba,a1,am,bd⟩:=xZ c.out.did;have ar:∃s,ze s r=true:=yn (lev:=lev) (ops:=twos) (by show opAt lev r≠0;rw[N];exact j);have M:uO r≠3:=by obtain⟨s,aJ⟩:=ar;rw[(vM aJ).1];decide
   have ax:=hid al;have X:=hid (am.tail M);have az:=hid M;replace l:=hid L;have aa:=hid (show zG ((PR.ok () r.tail).bind fun _ r=>pE q (lev+1) d r)by have h:=A.out;rw[L]at h;exact zu h);obtain⟨kk,ap⟩:∃kk:Int,((all.length-r.length:Nat):Int)=kk:=⟨_,rfl⟩
   have aH:0<=kk/\kk<=1000000:=I7
   obtain⟨a4,a5⟩:=aH;have Y:=hid ap;have a9:(o == 0)=false:=by simpa using j
   clear N L al am ar M j ap
   go_wp2_with (first
    | (go_at_call 149;(with_reducible refine(op_any c.out.st lev o B.out).mono ?_);rintro e aw ⟨rfl,g⟩
       have F:=hid g;have z:=q9 g.off ao t ab.out;replace c:=hid (c.out.step g);have ai:=hid (cur_next c.out az.out Y.out);have ad:=hid (row_off z t (.int .i64 (kk+1)));obtain⟨aS,aY⟩:=cur_at c.out Y.out
       clear g z)
    | (go_at_call 126;(with_reducible refine((W.out q I7).call ai.out.st aa.out).mono ?_);rintro e aQ ⟨v,rfl,C,i⟩
       obtain⟨bh,bi,bj,bk,aR,bo,bp,rfl⟩:=qX i aa.out;have G:=hid i;have aG:k.heap.size<(aw.setCell ⟨b,1,none⟩ (.int .i64 (kk+1))).heap.size:=(Array.getElem?_eq_some_iff.1 ad.out).1;have E:=q9 C.off aG t ad.out;have aA:=hid E;obtain⟨⟨aK,aL,aM,aN,aO⟩,aP⟩:=zP E;have ay:=hid C;replace c:=hid (ai.out.step C);have a3:k.heap.size<aQ.heap.size:=(Array.getElem?_eq_some_iff.1 E).1
       clear C i E))
   have H:=hid (expr_round (lev:=lev) (d:=d) af.out F.out ay.out c.out aA.out G.out l.out I7 I7 t aF I7);have an:=qW (n:=q) (lev:=lev+1) (d:=d) X.out;go_roundw
   case rel=>exact(H.out.1 n I7)
   case measure=>
    have p:=expr_at (H.out.2) an X.out;have h:=ax.out;have a0:r.tail.length+1=r.length:=by rw[List.length_tail];omega
    clear H an;exact meas_lt p I7
def CO(b:Nat)(V:Value)(all:List Tok)(lev d:Int):Prop:=∀(w:World) (x:PR Unit),jI b V all x w->zl x=true->
 Calls Tryz.prog 126 #[.pointer (some ⟨b,0,none⟩),.int .i64 lev,.int .i64 d] w (qM b V all w (x.bind fun _ _=>(.out:PR Ex)) (jx w.heap.size))
theorem CO.call{b:Nat}{V:Value}{all:List Tok}{lev d:Int}(a:CO b V all lev d){w:World}{x:PR Unit}(e:jI b V all x w)(c:zl x=true):
 Calls Tryz.prog 126 #[.pointer (some ⟨b,0,none⟩),.int .i64 lev,.int .i64 d] w (qM b V all w (x.bind fun _ _=>(.out:PR Ex)) (jx w.heap.size)):=a w x e c
theorem over_bind{α:Type}{x:PR Unit}(a:zl x=true)(f g:Unit->List Tok->PR α):x.bind f=x.bind g:=by
 cases x with
 | ok u r=>cases a
 | _=>rfl
theorem over_ends{α:Type}{b:Nat}{V:Value}{all:List Tok}{x:PR Unit}{w:World}(a:jI b V all x w)(c:zl x=true)(f:Unit->List Tok->PR α):zG (x.bind f):=by
 cases x with
 | ok u r=>cases c
 | bad r=>trivial
 | deep r=>trivial
 | out=>exact absurd a id
theorem over_un{α:Type}{x:PR Unit}(a:zl x=true)(f:Unit->List Tok->PR α):(x.bind f).un=x:=by
 cases x with
 | ok u r=>cases a
 | _=>rfl
theorem over_opX{lev:Int}{x:PR Unit}(a:zl x=true):opX lev x=0:=by
 cases x with
 | ok u r=>cases a
 | _=>rfl
theorem over_got{α:Type}{x:PR Unit}(c:zl x=true)(f:Unit->List Tok->PR α){P:α->Prop}{a:α}(b:P a):qy (x.bind f) P:=by
 cases x with
 | ok u r=>cases c
 | bad r=>exact⟨a,b⟩
 | deep r=>exact⟨a,b⟩
 | out=>trivial
theorem unary_over{b:Nat}{V:Value}{all:List Tok}{x:PR Unit}{w:World}(g:jI b V all x w)(h:zl x=true){d:Int}(i:0<=d/\d<=1000)(f:Unit->List Tok->PR Ex):
 Calls Tryz.prog 148 #[.pointer (some ⟨b,0,none⟩),.int .i64 d] w (qM b V all w (x.bind f) (jx w.heap.size)):=by
 have j:∀w',qd b V all w x w'->qM b V all w (x.bind f) (jx w.heap.size) (.returned ex0V) w':=fun w' a=>⟨_,rfl,(over_un h f).symm ▸ a,over_got h f (ex0_fr _ _)⟩
 by_cases k:d<=100
 .exact(unary_none g i h k).mono fun e w' ⟨c,a⟩=>c ▸ j w' a
 .cases x with
  | ok u r=>cases h
  | bad r=>exact(unary_bad (r:=r) rfl g i rfl I7).mono fun e w' ⟨c,a⟩=>c ▸ j w' a
  | deep r=>exact(unary_deep (dp:=true) g i I7).mono fun e w' ⟨c,a⟩=>c ▸ j w' a
  | out=>exact absurd g id
theorem over_top{b:Nat}{V:Value}{all:List Tok}{d:Int}(k:0<=d/\d<=1000):CO b V all 11 d:=by
 intro w x g i;have c:=hid (je.start g);have A:=hid i;have y:=hid (over_ends g i fun _ _=>(.out:PR Ex));have u:=hid k;clear g i k;go_enter Tryz.func126,Tryz.ntmps126
 go_wp2_with (first
  | (go_at_call 148;(with_reducible refine(unary_over c.out.st A.out u.out fun _ _=>(.out:PR Ex)).mono ?_);rintro e M ⟨v,rfl,j,h⟩
     obtain⟨l,m,o,p,q,r,t,rfl⟩:=qX h y.out;have F:=c.out.size;have z:=hid h;replace c:=hid (c.out.step j);clear j h
     obtain⟨⟨G,H,I,J,K⟩,L⟩:=c.out.own))
 obtain⟨B,f1,C,f3,D⟩:=c.out.read (.int .i64 l) (.int .i64 m) (.int .i64 o) (.string p) (.slice q r t);refine bodyPost_ret (v:=.agg #[.int .i64 l,.int .i64 m,.int .i64 o,.string p,.slice q r t]) (by simp[results,Tryz.results126,go_sem,B,f1,C,f3,D]) rfl ?_;exact c.out.fin rfl (z.out.imp fun a E=>jx.writ E F _ _ _ _ _)
theorem over_lev{b:Nat}{V:Value}{all:List Tok}{lev d:Int}(ae:1<=lev)(af:lev<=10)(z:CO b V all (lev+1) d):CO b V all lev d:=by
 intro w x o r;have c:=hid (je.start o);have i:=hid r;have y:=hid (over_ends o r fun _ _=>(.out:PR Ex));have J:=hid z;have ad:=o.lt;clear o r z;go_enter Tryz.func126,Tryz.ntmps126
 go_wp2_with (first
  | (go_at_call 126;(with_reducible refine(J.out.call c.out.st i.out).mono ?_);rintro e h ⟨v,rfl,g,q⟩
     obtain⟨j,k,l,m,D,E,F,rfl⟩:=qX q y.out;have ag:=c.out.size;have K:=hid q;rw[over_un i.out]at g;replace c:=hid (c.out.step g);have ah:=c.out.size
     clear g q))
 have ab:b<h.heap.size:=c.out.st.lt
 have L:=hid (show ∃a,je b V all w x (h.alloc (.cells #[.int .i64 j,.int .i64 k,.int .i64 l,.string m,.slice D E F] 147))/\Holds (w.heap.size+1) h.heap.size (h.alloc (.cells #[.int .i64 j,.int .i64 k,.int .i64 l,.string m,.slice D E F] 147)) a by
  obtain⟨a,B⟩:=K.out.some y.out;rw[zA]at B
  exact⟨a,c.out.alloc _,yw B⟩)
 go_loopw [8] (fun _ wr=>∃a,je b V all w x wr/\Holds (w.heap.size+1) h.heap.size wr a) (fun _ wr=>0)
 case atStart=>exact L.out
 case round=>
  obtain⟨a,p,⟨j,k,l,m,u,G,H,t,A⟩⟩:=hrel;replace c:=hid p;have N:=hid A;have M:=hid t;have S:=p.st.lt;have T:h.heap.size≠b:=I7
  have ai:=c.out.size;have R:h.heap.size<wr.heap.size:=(Array.getElem?_eq_some_iff.1 t).1;clear p A t
  go_wp2_with (first
   | (go_at_call 149;(with_reducible refine(op_any c.out.st lev 0 (over_opX i.out)).mono ?_);rintro e ap ⟨rfl,g⟩
      have I:=hid g;have C:=q9 g.off R T M.out;obtain⟨⟨aj,ak,al,am,an⟩,ao⟩:=zP C;replace c:=hid (c.out.step g);clear g C
      obtain⟨⟨U,W,X,Y,Z⟩,aa⟩:=c.out.own))
  obtain⟨O,f1,P,f3,Q⟩:=c.out.read (.int .i64 j) (.int .i64 k) (.int .i64 l) (.string m) (.slice u G H);refine bodyPost_ret (v:=.agg #[.int .i64 j,.int .i64 k,.int .i64 l,.string m,.slice u G H]) (by simp[results,Tryz.results126,go_sem,O,f1,P,f3,Q]) rfl ?_;exact c.out.fin (over_un i.out _) (over_got i.out _ (holds_end N.out I.out S I7))
theorem over_expr{b:Nat}{V:Value}{all:List Tok}{d:Int}(a:0<=d/\d<=1000):∀(k:Nat) (lev:Int),lev=11-k->1<=lev->CO b V all lev d
 | 0,lev,e,_=>by
   obtain rfl:lev=11:=I7
   exact over_top a
 | k+1,lev,e,h1=>over_lev h1 I7 (over_expr a k (lev+1) I7 I7)
theorem ce_over{b:Nat}{V:Value}{all:List Tok}{n:Nat}{lev d:Int}(g:0<=d/\d<=1000)(e:1<=lev)(h:lev<=11){w:World}{x:PR Unit}(c:jI b V all x w)(a:zl x=true):
 Calls Tryz.prog 126 #[.pointer (some ⟨b,0,none⟩),.int .i64 lev,.int .i64 d] w (qM b V all w (x.bind fun _ r=>pE n lev d r) (jx w.heap.size)):=by
 rw[over_bind a (fun _ r=>pE n lev d r) fun _ _=>.out];exact over_expr g (11-lev).toNat lev I7 e w x c a
theorem expr_all(b:Nat)(V:Value)(all:List Tok):∀(n:Nat),∀m,m<=n->(∀lev d:Int,1<=lev->lev<=11->0<=d->d<=101->CE b V all m lev d)/\(∀d:Int,0<=d->d<=101->CU b V all m d)/\(∀d:Int,0<=d->d<=100->CP b V all m d)/\(∀d:Int,0<=d->d<=101->CA b V all m d)
 | 0,m,hm=>by
   obtain rfl:m=0:=I7
   refine⟨fun lev d l t c h w x a i=>?_,fun d c h w x a i=>?_,fun d c h w x a i=>?_,fun d c h w x a i=>?_⟩
   .cases ho:zl x with
    | true=>exact ce_over ⟨c,I7⟩ l t a ho
    | false=>
      cases x with
      | ok u r=>exact absurd (show zG (pE 0 lev d r)from i) (by rw[pE];exact id)
      | bad r=>cases ho
      | deep r=>cases ho
      | out=>exact absurd a id
   .cases ho:zl x with
    | true=>exact unary_over a ho ⟨c,I7⟩ _
    | false=>
      cases x with
      | ok u r=>exact absurd (show zG (pU 0 d r)from i) (by rw[pU];exact id)
      | bad r=>cases ho
      | deep r=>cases ho
      | out=>exact absurd a id
   .cases ho:zl x with
    | true=>exact(vS a ho d).mono fun e w' ⟨p,o⟩=>p ▸ un_over ho o ex0 (ex0_fr _ _)
    | false=>
      cases x with
      | ok u r=>exact absurd (show zG (pP 0 d r)from i) (by rw[pP];exact id)
      | bad r=>cases ho
      | deep r=>cases ho
      | out=>exact absurd a id
   .cases ho:zl x with
    | true=>exact(args_over a ho d).mono fun e w' ⟨p,o⟩=>p ▸ un_over ho o [] (yp _ _)
    | false=>
      cases x with
      | ok u r=>exact absurd (show zG (pA 0 d r)from i) (by rw[pA];exact id)
      | bad r=>cases ho
      | deep r=>cases ho
      | out=>exact absurd a id
 | n+1,m,hm=>by
   have j:=expr_all b V all n;by_cases B:m<=n
   .exact j m B
   .obtain rfl:m=n+1:=by omega
    have k:∀q,q<=n->∀lev d:Int,1<=lev->lev<=11->0<=d->d<=101->CE b V all q lev d:=fun q g=>(j q g).1
    have v:∀q,q<=n->∀d:Int,0<=d->d<=101->CU b V all q d:=fun q g=>(j q g).2.1
    have A:∀q,q<=n->∀d:Int,0<=d->d<=100->CP b V all q d:=fun q g=>(j q g).2.2.1
    have z:∀q,q<=n->∀d:Int,0<=d->d<=101->CA b V all q d:=fun q g=>(j q g).2.2.2
    refine⟨fun lev d l t c h=>?_,fun d c h=>?_,fun d c h=>?_,fun d c h=>?_⟩
    .by_cases y:lev=11
     .subst y
      exact expr_top (v n Zr d c h)
     .exact expr_lev l I7 fun q g=>k q g (lev+1) d I7 I7 c h
    .exact unary_any (fun a=>k n Zr 1 (d+1) I7 I7 I7 I7) (fun a=>v n Zr (d+1) I7 I7) (fun a=>A n Zr d c a) ⟨c,I7⟩
    .exact prim_any (fun q g=>k q g 1 (d+1) I7 I7 I7 I7) (fun q g=>z q g (d+1) I7 I7) ⟨c,I7⟩
    .exact args_any fun q g=>k q g 1 d I7 I7 c h
theorem yQ{b:Nat}{V:Value}{all:List Tok}{n:Nat}{d:Int}(a:0<=d)(c:d<=101):CE b V all n 1 d:=(expr_all b V all n n Zr).1 1 d I8 I8 a c
theorem args_all{b:Nat}{V:Value}{all:List Tok}{n:Nat}{d:Int}(a:0<=d)(c:d<=101):CA b V all n d:=(expr_all b V all n n Zr).2.2.2 d a c
abbrev vU:Obj:=.cells #[.int .i64 0,.int .i64 0,.string ⟨#[]⟩,.slice none 0 0,.slice none 0 0,.slice none 0 0] 139
abbrev st0V:Value:=.agg #[.int .i64 0,.int .i64 0,.string ⟨#[]⟩,.slice none 0 0,.slice none 0 0,.slice none 0 0]
def uP(L:Nat)(w:World)(a:St)(v:Value):Prop:=
 match a with
 | .mk k ty name args thn els=>∃b c d,v=.agg #[.int .i64 k,.int .i64 ty,.string name,b,c,d]/\jA L w args b/\ky L w thn c/\ky L w els d
theorem uP.keep{L c:Nat}{w w':World}{a:St}{v:Value}(d:uP L w a v)(k:zK L w w')(b:c<=L):uP c w' a v:=by
 obtain⟨o,p,name,args,thn,els⟩:=a;obtain⟨j,l,m,i,e,g,h⟩:=d;exact⟨j,l,m,i,e.keep k b,g.keep k b,h.keep k b⟩
theorem uP.form{L:Nat}{w:World}{a:St}{v:Value}(i:uP L w a v):∃k t s b p e c q g d r h,v=.agg #[.int .i64 k,.int .i64 t,.string s,.slice b p e,.slice c q g,.slice d r h]:=by
 obtain⟨u,x,name,args,thn,els⟩:=a;obtain⟨y,z,A,o,j,l,m⟩:=i;obtain⟨b,e,rfl,_⟩:=j.form;obtain⟨c,g,rfl,_⟩:=l.form;obtain⟨d,h,rfl,_⟩:=m.form;exact⟨_,_,_,_,_,_,_,_,_,_,_,_,o⟩
theorem gots_form{L:Nat}{w:World}{x:PR St}{v:Value}(i:qy x fun a=>uP L w a v)(l:zG x):∃k t s b m e c o g d p h,v=.agg #[.int .i64 k,.int .i64 t,.string s,.slice b m e,.slice c o g,.slice d p h]:=by
 obtain⟨a,j⟩:=i.some l;exact j.form
theorem kl{L:Nat}{w:World}{x:PR (List St)}{v:Value}(d:qy x fun a=>ky L w a v)(g:zG x):∃b m c,v=.slice b m c:=by
 obtain⟨a,e⟩:=d.some g;obtain⟨b,c,h,_⟩:=e.form;exact⟨b,_,c,h⟩
theorem frEs_nil(L:Nat)(w:World):jA L w [] (.slice none 0 0):=yp _ _
theorem qT(L:Nat)(w:World):ky L w [] (.slice none 0 0):=slS_nil _ _
theorem xo{b:Nat}{V:Value}{all:List Tok}{x:PR Unit}{w:World}(h:jI b V all x w)(k:Int)(l:k≠3):
 Calls Tryz.prog 55 #[.pointer (some ⟨b,0,none⟩),.int .i64 k] w fun e w'=>∃s,e=.returned (.string s)/\qd b V all w (x.bind fun _ r=>want k r).un w'/\qy (x.bind fun _ r=>want k r) fun a=>a=s:=by
 cases x with
 | ok u r=>
   refine(text_live h k l).mono fun e w' ⟨v,d,c,g⟩=>?_
   show ∃s,_/\qd b V all w (want k r).un w'/\qy (want k r) _;unfold want at c g ⊢;by_cases i:uO r=k
   .rw[if_pos i]at c g ⊢
    exact⟨_,by rw[d,show v=_ from g],c,rfl⟩
   .rw[if_neg i]at c g ⊢
    obtain⟨a,j⟩:=g;exact⟨a,by rw[d,show v=_ from j],c,a,rfl⟩
 | bad r=>exact(text_over h rfl k).mono fun e w' ⟨d,c⟩=>⟨_,d,c,_,rfl⟩
 | deep r=>exact(text_over h rfl k).mono fun e w' ⟨d,c⟩=>⟨_,d,c,_,rfl⟩
 | out=>exact absurd h id
def OneF(L:Nat)(w:World)(a:Ex)(v:Value):Prop:=jA L w [a] v
theorem pI_assoc(n:Nat)(x:PR Unit):(x.bind fun _ r=>pI n r)=((x.bind fun _ r=>zN [40] r).bind fun _ r=>pE n 1 1 r).bind fun e r=>(zN [41] r).bind fun _ r=>.ok e r:=by
 rw[zV,zV];rfl
theorem uB{b:Nat}{V:Value}{all:List Tok}{n:Nat}{x:PR Unit}{w:World}(h:jI b V all x w)(l:zG (x.bind fun _ r=>pI n r)):
 Calls Tryz.prog 127 #[.pointer (some ⟨b,0,none⟩)] w (qM b V all w (x.bind fun _ r=>pI n r) (OneF w.heap.size)):=by
 rw[pI_assoc]at l ⊢;have o:=hid (zu l);have c:=hid (show qd b V all w x w from⟨h,OffB.refl _ _ _⟩);have C:=h.lt;have y:=hid (yQ (b:=b) (V:=V) (all:=all) (n:=n) (d:=1) I8 I8);clear h l;go_enter Tryz.func127,Tryz.ntmps127
 go_wp2_with (first
  | (go_at_call 58;(with_reducible refine(zY c.out.st ⟨#[40]⟩).mono ?_);rintro e t ⟨rfl,g⟩
     replace c:=hid (show qd b V all w (x.bind fun _ r=>zN [40] r) t from c.out.after g);have p:=c.out.off.size
     clear g)
  | (go_at_call 126;(with_reducible refine(y.out.call c.out.st o.out).mono ?_);rintro e u ⟨v,rfl,g,i⟩
     obtain⟨E,F,G,H,I,J,K,rfl⟩:=qX i o.out;have z:=hid i;have A:=c.out.st.lt;replace c:=hid (c.out.after g);have B:u.heap.size≠b:=by have:=c.out.st.lt;omega
     have D:=c.out.off.size
     clear g i)
  | (go_at_call 58;(with_reducible refine(zY (c.out.alloc _).st ⟨#[41]⟩).mono ?_);rintro e O ⟨rfl,g⟩
     have m:=hid ((zK.of_below (L:=t.heap.size) (Zb.alloc Zr _)).trans (zK.did g A));obtain⟨M,N⟩:=off_own g.off (k:=u.heap.size) Ia B;replace c:=hid ((c.out.alloc _).after g);have q:=c.out.off.size
     clear g))
 go_ret;refine⟨_,rfl,?_,qy.bind z.out (fun a r _ j=>yd (vG (jx.keep j m.out Zr) p q rfl)) fun a j=>⟨a,vG (jx.keep j m.out Zr) p q rfl⟩⟩;rw[jE];simp only[ki];rw[<-bind_un];exact c.out.alloc _
abbrev uQ(W:World)(g:Nat)(a b c d e h:Value):World:=((((((W.setCell ⟨g,0,none⟩ a).setCell ⟨g,1,none⟩ b).setCell ⟨g,2,none⟩ c).setCell ⟨g,3,none⟩ d).setCell ⟨g,4,none⟩ e).setCell ⟨g,5,none⟩ h)
theorem x9(W:World)(g:Nat)(a b c d e h:Value):(uQ W g a b c d e h).heap.size=W.heap.size:=by simp[uQ]
theorem nest6_row{W:World}{g:Nat}{i j k l m o:Value}{T:TypeId}{fr:Nat × Nat}(p:W.heap[g]? =some (.cells #[i,j,k,l,m,o] T fr))(a b c d e h:Value):(uQ W g a b c d e h).heap[g]? =some (.cells #[a,b,c,d,e,h] T fr):=
 Lib.heap_setCell_same (Lib.heap_setCell_same (Lib.heap_setCell_same (Lib.heap_setCell_same (Lib.heap_setCell_same (Lib.heap_setCell_same p a) b) c) d) e) h
theorem nest6_other{W:World}{g k:Nat}(a:k≠g)(b c d e h i:Value):(uQ W g b c d e h i).heap[k]? =W.heap[k]?:=by
 rw[Below.heap_setCell _ _ _ _ Ik,Below.heap_setCell _ _ _ _ Ik,Below.heap_setCell _ _ _ _ Ik,Below.heap_setCell _ _ _ _ Ik,Below.heap_setCell _ _ _ _ Ik,Below.heap_setCell _ _ _ _ Ik]
theorem zK.nest6{L g:Nat}{w:World}(a:g<L)(b c d e h i:Value):zK L w (uQ w g b c d e h i):=
 (((((zK.set a 0 b).trans (zK.set a 1 c)).trans (zK.set a 2 d)).trans (zK.set a 3 e)).trans (zK.set a 4 h)).trans (zK.set a 5 i)
theorem six_cells{W:World}{g:Nat}{b c d e h i:Value}{T:TypeId}(a:W.heap[g]? =some (.cells #[b,c,d,e,h,i] T (0,0))):
 (W.cell? ⟨g,0,none⟩=some b/\W.cell? ⟨g,1,none⟩=some c/\W.cell? ⟨g,2,none⟩=some d/\W.cell? ⟨g,3,none⟩=some e/\W.cell? ⟨g,4,none⟩=some h/\W.cell? ⟨g,5,none⟩=some i)/\∀o,W.frozen? ⟨g,o,none⟩=false:=by
 refine⟨⟨(Lib.cell_of_heap a 0).trans rfl,(Lib.cell_of_heap a 1).trans rfl,(Lib.cell_of_heap a 2).trans rfl,(Lib.cell_of_heap a 3).trans rfl,(Lib.cell_of_heap a 4).trans rfl,(Lib.cell_of_heap a 5).trans rfl⟩,fun o=>?_⟩;simp[World.frozen?,a]
def jR(b:Nat)(V:Value)(all:List Tok)(w:World)(x:PR Unit)(W:World):Prop:=qd b V all w x W/\W.heap[w.heap.size]? =some vU/\TokH b V all w/\b<w.heap.size
section
variable {b:Nat} {V:Value} {all:List Tok} {w W W':World} {x y:PR Unit}
theorem jR.start(a:jI b V all x w):jR b V all w x (w.alloc vU):=
 ⟨⟨a.below (Zb.alloc Zr _),OffB.of_below (Zb.alloc Zr _) a.lt⟩,heap_alloc_new w vU,a.tok,a.lt⟩
theorem jR.st(a:jR b V all w x W):jI b V all x W:=a.1.1
theorem jR.size(a:jR b V all w x W):w.heap.size<W.heap.size:=(Array.getElem?_eq_some_iff.1 a.2.1).1
theorem jR.ne(a:jR b V all w x W):w.heap.size≠b:=Ql
theorem jR.lt(a:jR b V all w x W):b<w.heap.size:=a.2.2.2
theorem jR.step(a:jR b V all w x W)(g:qd b V all W y W'):jR b V all w y W':=⟨a.1.after g,q9 g.off a.size a.ne a.2.1,a.2.2⟩
theorem jR.alloc(a:jR b V all w x W)(o:Obj):jR b V all w x (W.alloc o):=⟨a.1.alloc o,qE a.2.1 o,a.2.2⟩
theorem jR.own(a:jR b V all w x W):(W.cell? ⟨w.heap.size,0,none⟩=some (.int .i64 0)/\W.cell? ⟨w.heap.size,1,none⟩=some (.int .i64 0)/\W.cell? ⟨w.heap.size,2,none⟩=some (.string ⟨#[]⟩)/\
 W.cell? ⟨w.heap.size,3,none⟩=some (.slice none 0 0)/\W.cell? ⟨w.heap.size,4,none⟩=some (.slice none 0 0)/\W.cell? ⟨w.heap.size,5,none⟩=some (.slice none 0 0))/\∀o,W.frozen? ⟨w.heap.size,o,none⟩=false:=six_cells a.2.1
theorem jR.set(a:jR b V all w x W){g:Nat}(c:w.heap.size<g)(i:Nat)(u:Value):jR b V all w x (W.setCell ⟨g,i,none⟩ u):=
 ⟨a.1.set a.2.2.1 I7 Ql i u,(Below.heap_setCell W _ u _ (by show w.heap.size≠g;omega)).trans a.2.1,a.2.2⟩
theorem qd.nest6(m:qd b V all w x W)(d:TokH b V all w){g:Nat}(c:w.heap.size<=g)(a:g≠b)(e h i j k l:Value):qd b V all w x (uQ W g e h i j k l):=
 (((((m.set d c a 0 e).set d c a 1 h).set d c a 2 i).set d c a 3 j).set d c a 4 k).set d c a 5 l
theorem jR.fin(j:jR b V all w y W){X:PR St}(l:X.un=y){c d e g h i:Value}(k:qy X fun a=>uP w.heap.size (uQ W w.heap.size c d e g h i) a (.agg #[c,d,e,g,h,i])):
 qM b V all w X (uP w.heap.size) (.returned (.agg #[c,d,e,g,h,i])) (uQ W w.heap.size c d e g h i):=
 ⟨_,rfl,l ▸ j.1.nest6 j.2.2.1 Zr j.ne _ _ _ _ _ _,k⟩
theorem jR.fina(j:jR b V all w y W){X:PR St}(l:X.un=y){o:Obj}{c d e g h i:Value}(k:qy X fun a=>uP w.heap.size ((_root_.Go.Proofs.YthcmenajdcbnnaaGreatDoor.uQ W w.heap.size c d e g h i).alloc o) a (.agg #[c,d,e,g,h,i])):
 qM b V all w X (uP w.heap.size) (.returned (.agg #[c,d,e,g,h,i])) ((_root_.Go.Proofs.YthcmenajdcbnnaaGreatDoor.uQ W w.heap.size c d e g h i).alloc o):=
 ⟨_,rfl,l ▸ (j.1.nest6 j.2.2.1 Zr j.ne _ _ _ _ _ _).alloc o,k⟩
theorem jR.read(h:jR b V all w x W)(a c d e g c5:Value):(((((((W.setCell ⟨w.heap.size,0,none⟩ a).setCell ⟨w.heap.size,1,none⟩ c).setCell ⟨w.heap.size,2,none⟩ d).setCell ⟨w.heap.size,3,none⟩ e).setCell ⟨w.heap.size,4,none⟩ g).setCell ⟨w.heap.size,5,none⟩ c5)).cell? ⟨w.heap.size,0,none⟩=some a/\(((((((W.setCell ⟨w.heap.size,0,none⟩ a).setCell ⟨w.heap.size,1,none⟩ c).setCell ⟨w.heap.size,2,none⟩ d).setCell ⟨w.heap.size,3,none⟩ e).setCell ⟨w.heap.size,4,none⟩ g).setCell ⟨w.heap.size,5,none⟩ c5)).cell? ⟨w.heap.size,1,none⟩=some c/\(((((((W.setCell ⟨w.heap.size,0,none⟩ a).setCell ⟨w.heap.size,1,none⟩ c).setCell ⟨w.heap.size,2,none⟩ d).setCell ⟨w.heap.size,3,none⟩ e).setCell ⟨w.heap.size,4,none⟩ g).setCell ⟨w.heap.size,5,none⟩ c5)).cell? ⟨w.heap.size,2,none⟩=some d/\(((((((W.setCell ⟨w.heap.size,0,none⟩ a).setCell ⟨w.heap.size,1,none⟩ c).setCell ⟨w.heap.size,2,none⟩ d).setCell ⟨w.heap.size,3,none⟩ e).setCell ⟨w.heap.size,4,none⟩ g).setCell ⟨w.heap.size,5,none⟩ c5)).cell? ⟨w.heap.size,3,none⟩=some e/\(((((((W.setCell ⟨w.heap.size,0,none⟩ a).setCell ⟨w.heap.size,1,none⟩ c).setCell ⟨w.heap.size,2,none⟩ d).setCell ⟨w.heap.size,3,none⟩ e).setCell ⟨w.heap.size,4,none⟩ g).setCell ⟨w.heap.size,5,none⟩ c5)).cell? ⟨w.heap.size,4,none⟩=some g/\(((((((W.setCell ⟨w.heap.size,0,none⟩ a).setCell ⟨w.heap.size,1,none⟩ c).setCell ⟨w.heap.size,2,none⟩ d).setCell ⟨w.heap.size,3,none⟩ e).setCell ⟨w.heap.size,4,none⟩ g).setCell ⟨w.heap.size,5,none⟩ c5)).cell? ⟨w.heap.size,5,none⟩=some c5:=(six_cells (nest6_row h.2.1 a c d e g c5)).1
theorem jR.reada(h:jR b V all w x W)(o:Obj)(a c d e g c5:Value):((((((((W.setCell ⟨w.heap.size,0,none⟩ a).setCell ⟨w.heap.size,1,none⟩ c).setCell ⟨w.heap.size,2,none⟩ d).setCell ⟨w.heap.size,3,none⟩ e).setCell ⟨w.heap.size,4,none⟩ g).setCell ⟨w.heap.size,5,none⟩ c5)).alloc o).cell? ⟨w.heap.size,0,none⟩=some a/\((((((((W.setCell ⟨w.heap.size,0,none⟩ a).setCell ⟨w.heap.size,1,none⟩ c).setCell ⟨w.heap.size,2,none⟩ d).setCell ⟨w.heap.size,3,none⟩ e).setCell ⟨w.heap.size,4,none⟩ g).setCell ⟨w.heap.size,5,none⟩ c5)).alloc o).cell? ⟨w.heap.size,1,none⟩=some c/\((((((((W.setCell ⟨w.heap.size,0,none⟩ a).setCell ⟨w.heap.size,1,none⟩ c).setCell ⟨w.heap.size,2,none⟩ d).setCell ⟨w.heap.size,3,none⟩ e).setCell ⟨w.heap.size,4,none⟩ g).setCell ⟨w.heap.size,5,none⟩ c5)).alloc o).cell? ⟨w.heap.size,2,none⟩=some d/\((((((((W.setCell ⟨w.heap.size,0,none⟩ a).setCell ⟨w.heap.size,1,none⟩ c).setCell ⟨w.heap.size,2,none⟩ d).setCell ⟨w.heap.size,3,none⟩ e).setCell ⟨w.heap.size,4,none⟩ g).setCell ⟨w.heap.size,5,none⟩ c5)).alloc o).cell? ⟨w.heap.size,3,none⟩=some e/\((((((((W.setCell ⟨w.heap.size,0,none⟩ a).setCell ⟨w.heap.size,1,none⟩ c).setCell ⟨w.heap.size,2,none⟩ d).setCell ⟨w.heap.size,3,none⟩ e).setCell ⟨w.heap.size,4,none⟩ g).setCell ⟨w.heap.size,5,none⟩ c5)).alloc o).cell? ⟨w.heap.size,4,none⟩=some g/\((((((((W.setCell ⟨w.heap.size,0,none⟩ a).setCell ⟨w.heap.size,1,none⟩ c).setCell ⟨w.heap.size,2,none⟩ d).setCell ⟨w.heap.size,3,none⟩ e).setCell ⟨w.heap.size,4,none⟩ g).setCell ⟨w.heap.size,5,none⟩ c5)).alloc o).cell? ⟨w.heap.size,5,none⟩=some c5:=(six_cells (qE (nest6_row h.2.1 a c d e g c5) o)).1
end
end Go.Proofs.YthcmenajdcbnnaaGreatDoor
