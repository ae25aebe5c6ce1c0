import Derived.Test.YthcmenajdcbnnaaGreatDoorAtParSt
set_option linter.unusedSimpArgs false
set_option linter.unusedVariables false
set_option maxRecDepth 100000
/- The document's parser: statements in braces. (By tools/gen_parblk.py.) -/
namespace Go.Proofs.YthcmenajdcbnnaaGreatDoor
open Lib (hid)
open Go.RowKit
structure StP4 where
 s:St
 v3:Value
 v4:Value
 v5:Value
def stC(p:StP4):List Value:=match p.s with | .mk k t n _ _ _=>[.int .i64 k,.int .i64 t,.string n,p.v3,p.v4,p.v5]
def stCs(ps:List StP4):List Value:=ps.flatMap stC
theorem stCs_snoc(ps:List StP4)(p:StP4):stCs (ps++[p])=stCs ps++stC p:=by simp[stCs]
def stIn(b:Nat)(w:World)(p:StP4):Prop:=match p.s with | .mk _ _ _ a t e=>xL b w p.v3 a/\SlS b w p.v4 t/\SlS b w p.v5 e
theorem SlS.mask{p q:Nat->Bool}{w w':World}{v:Value}{l:List St}(b:SlS w.heap.size (_root_.Go.Proofs.YthcmenajdcbnnaaGreatDoor.mask p w) v l)(i:w.heap.size<=w'.heap.size)(d:∀k,k<w.heap.size->p k=false->q k=false/\w'.heap[k]? =w.heap[k]?):SlS w'.heap.size (_root_.Go.Proofs.YthcmenajdcbnnaaGreatDoor.mask q w') v l:=by
 refine b.imp fun g o u a=>?_
 obtain⟨e,a⟩:=jJ a;obtain⟨h,c⟩:=d g a.1 e;exact jK h ⟨Nat.lt_of_lt_of_le a.1 i,(World.cell?_of_block (w:=w) c).trans a.2⟩
theorem stIn_mask{p q:Nat->Bool}{w w':World}{x:StP4}(d:stIn w.heap.size (mask p w) x)(g:w.heap.size<=w'.heap.size)(e:∀k,k<w.heap.size->p k=false->q k=false/\w'.heap[k]? =w.heap[k]?):stIn w'.heap.size (mask q w') x:=by
 obtain⟨⟨k,t,n,a,b,c⟩,v3,v4,v5⟩:=x;exact⟨xL.mask d.1 g e,SlS.mask d.2.1 g e,SlS.mask d.2.2 g e⟩
theorem stIn_imp{B h:Nat}{w w':World}(e:∀g o u,CellB B w g o u->CellB h w' g o u){x:StP4}(d:stIn B w x):stIn h w' x:=by
 obtain⟨⟨k,t,n,a,b,c⟩,v3,v4,v5⟩:=x;exact⟨d.1.imp e,d.2.1.imp e,d.2.2.imp e⟩
def vV(B:Nat)(w:World)(v:Value)(acc:List St):Prop:=
 ∃ps:List StP4,ps.map (·.s)=acc/\w.ownsRow B 139 6 v ps.length (stCs ps)/\∀p∈ps,stIn w.heap.size (mask (yI B v) w) p
theorem vV.nil(B:Nat)(w:World):vV B w (.slice none 0 0) []:=⟨[],rfl,World.ownsRow_nil w B _ 6,fun p a=>Ii⟩
theorem vV.form{B:Nat}{w:World}{v:Value}{acc:List St}(b:vV B w v acc):∃a c,v=.slice a acc.length c:=by
 obtain⟨ps,rfl,d,_⟩:=b;rw[List.length_map];exact zU d
theorem vV.own{B:Nat}{w:World}{v:Value}{acc:List St}(a:vV B w v acc):∀k,v.ownBlock=some k->k<w.heap.size/\B<=k:=by
 obtain⟨ps,_,b,_⟩:=a;exact qP b
theorem vV.keep{B:Nat}{w w':World}{v:Value}{acc:List St}(b:vV B w v acc)(k:zK B w w'):vV B w' v acc:=by
 have c:=b.own;obtain⟨ps,e,h,i⟩:=b;exact⟨ps,e,zm h fun j a=>k.2 j (c j a).1 (c j a).2,fun p g=>stIn_mask (i p g) k.1 fun j a d=>⟨d,k.2 j a (qQ.1 d).1⟩⟩
theorem vV.app{B L:Nat}{w W w':World}{v v':Value}{acc:List St}{e:St}{k t:Int}{s:ByteArray}{v3 v4 v5:Value}(u:vV B w v acc)(I:uP L w e (.agg #[.int .i64 k,.int .i64 t,.string s,v3,v4,v5]))(N:B<=L)(H:∀k,v.ownBlock=some k->k<L)
 (q:Below w.heap.size w W) (C:W.grownBy w' v.ownBlock) (M:xG W v v') (J:w'.ownsRow B 139 6 v' (acc.length+1) ((stCs (Classical.choose u))++[.int .i64 k,.int .i64 t,.string s,v3,v4,v5])):vV B w' v' (acc++[e]):=by
 obtain⟨E,P,K⟩:=Classical.choose_spec u;generalize Classical.choose u=ps at *;obtain⟨Q,S,R,a,b,c⟩:=e;obtain⟨u3,u4,u5,F,l,m,G⟩:=I;simp only[Value.agg.injEq,Array.mk.injEq,List.cons.injEq,Value.int.injEq,Value.string.injEq,true_and,and_true]at F;obtain⟨rfl,rfl,rfl,rfl,rfl,rfl⟩:=F;have r:w.heap.size<=w'.heap.size:=Nat.le_trans q.size C.size
 have A:∀j,j<w.heap.size->v.ownBlock≠some j->v'.ownBlock≠some j/\w'.heap[j]? =w.heap[j]?:=fun j h D=>by
  refine⟨fun d=>?_,(C.block j (Nat.lt_of_lt_of_le h q.size) (fun e=>D e.symm)).trans (q.block j h)⟩;rcases M with i|⟨g,i,z⟩
  .exact D (i ▸ d)
  .rw[i]at d
   injection d with d;have:=q.size;omega
 have x:∀j,j<w.heap.size->low L j=false->yI B v' j=false/\w'.heap[j]? =w.heap[j]?:=fun j h y=>by
  have O:=kR.1 y;obtain⟨l,m⟩:=A j h (fun d=>by have:=H j d;omega);exact⟨qQ.2 ⟨I7,l⟩,m⟩
 refine⟨ps++[⟨.mk k t s a b c,v3,v4,v5⟩],by rw[List.map_append,E];rfl,?_,fun p o=>?_⟩
 .rw[stCs_snoc,List.length_append,show ps.length=acc.length by rw[<-E,List.length_map]]
  exact J
 .rcases List.mem_append.1 o with o|o
  .refine stIn_mask (K p o) r fun j h y=>?_
   obtain⟨i,z⟩:=qQ.1 y;obtain⟨l,m⟩:=A j h z;exact⟨qQ.2 ⟨i,l⟩,m⟩
  .obtain rfl:=List.mem_singleton.1 o
   exact⟨xL.mask l r x,SlS.mask m r x,SlS.mask G r x⟩
theorem rdSs_of{d:Nat}{W:World}{g:Nat}:∀(ps:List StP4) (o:Nat),(∀j u,(stCs ps)[j]? =some u->CellB d W g (o+j) u)->(∀p∈ps,stIn d W p)->kK d W (ps.map (·.s)) g o
 | [],_,_,_=>by
   show kK d W [] g _;rw[kK];trivial
 | p::r,o,hc,hp=>by
   show kK d W (p.s::r.map (·.s)) g o;have h:=hp p (List.mem_cons_self ..);obtain⟨⟨k,t,i,a,b,c⟩,v3,v4,v5⟩:=p;have e:stCs (⟨.mk k t i a b c,v3,v4,v5⟩::r)=.int .i64 k :: .int .i64 t :: .string i::v3::v4::v5::stCs r:=by simp[stCs,stC]
   rw[e]at hc;rw[kK];refine⟨?_,rdSs_of r (o+6) (fun j u l=>?_) fun q m=>hp q (List.mem_cons_of_mem _ m)⟩
   .rw[RdS]
    exact⟨hc 0 _ rfl,hc 1 _ rfl,hc 2 _ rfl,⟨v3,hc 3 _ rfl,h.1⟩,⟨v4,hc 4 _ rfl,h.2.1⟩,⟨v5,hc 5 _ rfl,h.2.2⟩⟩
   .have:=hc (j+6) u (by simpa using l)
    rw[show o+6+j=o+(j+6)by omega];exact this
theorem vV.read{B:Nat}{w:World}{v:Value}{acc:List St}(h:vV B w v acc)(r:acc.length<=281474976710656):ky B w acc v:=by
 obtain⟨ps,rfl,t,x⟩:=h
 have z:∀g o u,CellB w.heap.size (mask (yI B v) w) g o u->CellB w.heap.size (mask (low B) w) g o u:=fun g o u b=>by
  obtain⟨y,b⟩:=jJ b;exact jK (kR.2 (qQ.1 y).1) b
 rcases t.2 with⟨rfl,i⟩|⟨g,d,e,rfl,k,c,A,C,D,l⟩
 .have:ps=[]:=List.eq_nil_of_length_eq_zero i
  subst this;exact slS_nil _ _
 .refine⟨_,d,?_,?_,fun _=>⟨g,0,rfl,?_⟩⟩
  .rw[List.length_map]
  .exact r
  .have m:g<w.heap.size:=(Array.getElem?_eq_some_iff.1 c).1
   refine rdSs_of ps 0 (fun j u a=>?_) fun p q=>stIn_imp z (x p q)
   refine jK (kR.2 k) ⟨m,?_⟩;rw[Nat.zero_add,cell_of_row w g j e _ (0,0) c];rw[<-l,List.getElem?_take]at a;split at a
   .simpa using a
   .cases a
theorem st_info:(Tryz.prog.info? 139).map (fun i=>(i.zero,i.size,i.bytes))=some (some st0V,6,104):=by kernel_rfl
theorem blk_pre{B:Nat}{w:World}{v:Value}{acc:List St}(i:vV B w v acc)(a b c d g h:Value)(o:B<=w.heap.size):
 (w.alloc (.cells #[a,b,c,d,g,h] 139)).ownsRow B 139 6 v acc.length (stCs (Classical.choose i))/\
 (∀j u,[a,b,c,d,g,h][j]? =some u->(w.alloc (.cells #[a,b,c,d,g,h] 139)).cell? ((⟨w.heap.size,0,none⟩:Addr).add j)=some u)/\B<=(w.alloc (.cells #[a,b,c,d,g,h] 139)).heap.size:=by
 obtain⟨l,k,p⟩:=Classical.choose_spec i;refine⟨?_,fun j u m=>?_,Ic⟩
 .have e:(Classical.choose i).length=acc.length:=by rw[<-List.length_map (f:=(·.s)),l]
  rw[e]at k;exact qR k ((Below.refl w.heap.size w).alloc Zr _) Zr
 .rw[show(⟨w.heap.size,0,none⟩:Addr).add j=⟨w.heap.size,j,none⟩by unfold Addr.add;split <;> simp_all]
  exact(cell_of_row _ w.heap.size j _ _ (0,0) (heap_alloc_new w _)).trans (by simpa using m)
def yx(b:Nat)(w:World):Nat:=match w.cell? ⟨b,2,none⟩,w.cell? ⟨b,3,none⟩with
 | some (.bool false),some (.bool false)=>1
 | _,_=>0
theorem liveN_ok{b:Nat}{V:Value}{all r:List Tok}{w:World}(a:zW b V all r false false w):yx b w=1:=by
 unfold yx;rw[a.cells.2.2.1,a.cells.2.2.2]
theorem uC{b:Nat}{V:Value}{all:List Tok}{x:PR Unit}{w:World}(e:jI b V all x w)(g:zl x=true):yx b w=0:=by
 unfold yx;obtain⟨r,d,dp,c,a,_⟩:=e.box;rw[g]at a;rw[c.cells.2.2.1,c.cells.2.2.2];cases d <;> cases dp <;> first|rfl|cases a
theorem liveN_le(b:Nat)(w:World):yx b w<=1:=by
 unfold yx;split <;> omega
def BlkRel(b:Nat)(V:Value)(all:List Tok)(w:World)(T:PR (List St))(n:Nat)(d:Int)(c:Value)(wr:World):Prop:=
 ∃(m:Nat) (acc:List St) (a:PR Unit),m<=n/\vV w.heap.size wr c acc/\qd b V all w a wr/\T=a.bind (fun _ r=>pBL m d acc r)/\(zl a=false->acc.length<=xx b wr)/\acc.length<=2000000
def BlkNext(b:Nat)(V:Value)(all:List Tok)(w w':World)(q:Nat)(d:Int)(acc:List St)(r:List Tok)(v':Value):Prop:=
 (∃(a:List St) (c:PR Unit),vV w.heap.size w' v' a/\qd b V all w c w'/\pBL (q+1) d acc r=c.bind (fun _ r=>pBL q d a r)/\(zl c=false->a.length<=xx b w')/\a.length<=2000000)/\2*(all.length-xx b w')+yx b w'<2*r.length+1
theorem pBL_got{q:Nat}{d:Int}{acc:List St}{r:List Tok}(a:ze [125] r=false):pBL (q+1) d acc r=(pS q d r).bind fun s r=>pBL q d (acc++[s]) r:=by rw[pBL,if_neg Qm]
theorem blk_next{b:Nat}{V:Value}{all:List Tok}{w i w':World}{q:Nat}{d:Int}{acc:List St}{r:List Tok}{v v':Value}{L:Nat}{k t:Int}{s:ByteArray}{v3 v4 v5:Value}
 (m:vV w.heap.size i v acc) (K:qd b V all w (pS q d r).un i) (l:qy (pS q d r) fun a=>uP L i a (.agg #[.int .i64 k,.int .i64 t,.string s,v3,v4,v5])) (hF:zc 1 r (pS q d r)) (B:ze [125] r=false)
 (g:(i.alloc (.cells #[.int .i64 k,.int .i64 t,.string s,v3,v4,v5] 139)).grownBy w' v.ownBlock) (H:xG (i.alloc (.cells #[.int .i64 k,.int .i64 t,.string s,v3,v4,v5] 139)) v v')
 (G:w'.ownsRow w.heap.size 139 6 v' (acc.length+1) ((stCs (Classical.choose m))++[.int .i64 k,.int .i64 t,.string s,v3,v4,v5])) (D:∀k,v.ownBlock=some k->k<L) (C:w.heap.size<=L) (W:r.length<=all.length)
 (Q:acc.length<=1000000) (R:acc.length<=all.length-r.length) (O:TokH b V all w) (S:b<w.heap.size) (X:0<r.length):BlkNext b V all w w' q d acc r v':=by
 have E:Below i.heap.size i (i.alloc (.cells #[.int .i64 k,.int .i64 t,.string s,v3,v4,v5] 139)):=Zb.alloc Zr _
 have M:∀x,qd b V all w x i->qd b V all w x w':=fun x h=>by
  have p:=h.alloc (.cells #[.int .i64 k,.int .i64 t,.string s,v3,v4,v5] 139)
  have N:v.ownBlock≠some b:=fun e=>by
   have P:=(m.own b e).2;omega
  have J:OffB b w.heap.size w w':=p.off.trans (OffB.mk' g.os g.tape g.output g.size p.st.lt fun j T U=>g.block j (by have:=p.off.size;omega) (fun e=>by
   have:=(m.own j e.symm).2
   omega))
  exact⟨p.st.move O J (g.block b p.st.lt (fun e=>N e.symm)),J⟩
 have c:=M _ K;cases h:pS q d r with
 | ok e r2=>
   rw[h]at l c hF;have u:zH 1 r r2:=hF;have y:zW b V all r2 false false w':=c.st;have o:=qt y;have I:=u.2.2;have z:=liveN_le b w';refine⟨⟨acc++[e],.ok () r2,m.app l C D E g H G,c,QP,fun _=>?_,?_⟩,?_⟩
   .rw[o,List.length_append]
    simp;omega
   .rw[List.length_append]
    simp;omega
   .rw[o]
    omega
 | bad r2=>
   rw[h]at l c hF;have u:zH 0 r r2:=hF;have y:zW b V all r2 true false w':=c.st;have o:=qt y;have I:=u.2.2;have z:=uC c.st rfl;obtain⟨e,F⟩:=l;refine⟨⟨acc++[e],.bad r2,m.app F C D E g H G,c,QP,(fun A=>by cases A),?_⟩,?_⟩
   .rw[List.length_append]
    simp;omega
   .rw[o,z]
    omega
 | deep r2=>
   rw[h]at l c hF;have u:zH 0 r r2:=hF;have y:zW b V all r2 false true w':=c.st;have o:=qt y;have I:=u.2.2;have z:=uC c.st rfl;obtain⟨e,F⟩:=l;refine⟨⟨acc++[e],.deep r2,m.app F C D E g H G,c,QP,(fun A=>by cases A),?_⟩,?_⟩
   .rw[List.length_append]
    simp;omega
   .rw[o,z]
    omega
 | out=>
   rw[h]at c;exact absurd c.st id
theorem stmt_st{b:Nat}{V:Value}{all r:List Tok}{w:World}{n:Nat}{d:Int}(c:d<=100->∀m,m<=n->CB b V all m (d+1))(a:jI b V all (.ok () r) w)(e:0<=d/\d<=1000)(g:zG (pS (n+1) d r)):
 Calls Tryz.prog 103 #[.pointer (some ⟨b,0,none⟩),.int .i64 d] w (qM b V all w (pS (n+1) d r) (uP w.heap.size)):=pstmt_any c a e g
theorem blk_over{b:Nat}{V:Value}{all:List Tok}{x:PR Unit}{w:World}(h:jI b V all x w)(g:zl x=true)(d:Int):
 Calls Tryz.prog 82 #[.pointer (some ⟨b,0,none⟩),.int .i64 d] w fun e w'=>e=.returned (.slice none 0 0)/\qd b V all w x w':=by
 have a:=hid (show qd b V all w x w from⟨h,OffB.refl _ _ _⟩);have j:=hid g;have i:=hid (show(x.bind fun _ r=>zN (⟨#[123]⟩:ByteArray).data.toList r)=x by cases x with|ok u r=>cases g|_=>rfl);clear h g;go_enter Tryz.func82,Tryz.ntmps82
 go_wp2_with (first
  | (go_at_call 58;(with_reducible refine(zY a.out.st _).mono ?_);rintro e m ⟨rfl,c⟩;rw[i.out]at c;replace a:=hid (a.out.after c);clear c))
 go_loopw [5] (fun k wr=>k=.slice none 0 0/\qd b V all w x wr) (fun _ _=>0)
 case atStart=>exact⟨rfl,a.out⟩
 case round=>
  obtain⟨rfl,c⟩:=hrel;replace a:=hid c;clear c
  go_wp2_with (first
   | (go_at_call 53;(with_reducible refine(zt a.out.st true j.out).mono ?_);rintro e l ⟨rfl,rfl⟩))
  go_ret;exact⟨rfl,a.out⟩
theorem blk_end{b:Nat}{V:Value}{all:List Tok}{w W:World}{T:PR (List St)}{acc:List St}{v:Value}{z:PR Unit}(c:qd b V all w z W)(g:vV w.heap.size W v acc)(h:acc.length<=2000000)(d:T=z.bind fun _ r=>.ok acc r):qM b V all w T (ky w.heap.size) (.returned v) W:=by
 have a:=g.read I7;subst d;refine⟨v,rfl,?_,?_⟩
 .rw[jE]
  have e:(z.bind fun _ r=>(PR.ok acc r).un)=z:=by cases z <;> rfl
  rw[e];exact c
 .cases z with
  | ok u r=>exact a
  | bad r=>exact⟨acc,a⟩
  | deep r=>exact⟨acc,a⟩
  | out=>trivial
theorem blk_any{b:Nat}{V:Value}{all:List Tok}{x:PR Unit}{w:World}{n:Nat}{d:Int}(S:d<=100->∀m,m<=n->CB b V all m (d+1))(o:jI b V all x w)(Y:0<=d/\d<=1000)(T:PR (List St))(U:T=(x.bind fun _ r=>zN [123] r).bind fun _ r=>pBL n d [] r)(ab:zG T):
 Calls Tryz.prog 82 #[.pointer (some ⟨b,0,none⟩),.int .i64 d] w (qM b V all w T (ky w.heap.size)):=by
 have a:=hid (show qd b V all w x w from⟨o,OffB.refl _ _ _⟩);have B:=o.lt;have aJ:=hid o.tok;have av:=hid S;have z:=hid ab;have aI:=hid U;have ay:=hid Y;clear o ab U S Y;go_enter Tryz.func82,Tryz.ntmps82
 go_wp2_with (first
  | (go_at_call 58;(with_reducible refine(zY a.out.st ⟨#[123]⟩).mono ?_);rintro e aS ⟨rfl,c⟩
     replace a:=hid (show qd b V all w (x.bind fun _ r=>zN [123] r) aS from a.out.after c)
     clear c))
 go_loopw [5] (fun aR wr=>BlkRel b V all w T n d aR wr) (fun _ wr=>2*(all.length-xx b wr)+yx b wr)
 case atStart=>exact⟨n,[],_,Nat.le_refl _,vV.nil _ _,a.out,aI.out,fun _=>Nat.zero_le _,Ia⟩
 case round=>
  obtain⟨aQ,aa,af,ag,ah⟩:=info_parts st_info;have y:=hid (And.intro aa (And.intro af (And.intro ag ah)));clear aa af ag ah;obtain⟨m,acc,p,aW,i,c,l,J,W⟩:=hrel;cases ho:zl p with
  | true=>
    have j:T=p.bind fun _ r=>.ok acc r:=l.trans (over_bind ho _ _)
    have t:=hid j;have h:=hid i;replace a:=hid c;have aF:=hid ho;obtain⟨C,F,rfl⟩:=i.form;clear c i l j J ho
    go_wp2_with (first
     | (go_at_call 53;(with_reducible refine(zt a.out.st true aF.out).mono ?_);rintro e aq ⟨rfl,rfl⟩))
    go_ret;exact blk_end a.out h.out W t.out
  | false=>
    obtain⟨r,rfl⟩:∃r,p=.ok () r:=by
     cases p with
     | ok u r=>exact⟨r,rfl⟩
     | bad r=>cases ho
     | deep r=>cases ho
     | out=>exact absurd c.st id
    have X:=J rfl;clear J;obtain⟨A,aO,aU,K,aP⟩:=xZ c;rw[A]at X;have L:=liveN_ok (show zW b V all r false false wr from c.st);cases hs:ze [125] r with
    | true=>
      have j:T=(PR.ok () r.tail).bind fun _ r=>.ok acc r:=by
       rw[l];show pBL m d acc r=.ok acc r.tail;cases m with
       | zero=>have g:=z.out;rw[l]at g;exact absurd (show zG (pBL 0 d acc r)from g) (by rw[pBL];exact id)
       | succ m=>rw[pBL,if_pos hs]
      have t:=hid j;have E:=hid (show zS (⟨#[125]⟩:ByteArray).data.toList (PR.ok () r)=true from hs);have h:=hid i;replace a:=hid c;obtain⟨C,F,rfl⟩:=i.form;clear c i l j A K hs ho L
      go_wp2_with (first
       | (go_at_call 53;(with_reducible refine(zt a.out.st false rfl).mono ?_);rintro e aq ⟨rfl,rfl⟩)
       | (go_at_call 56;(with_reducible refine(zi a.out.st _ E.out).mono ?_);rintro e ar ⟨rfl,c⟩
          replace h:=hid (h.out.keep (zK.did c B));replace a:=hid (show qd b V all w (.ok () r.tail) ar from a.out.after c)
          clear c))
      go_ret;exact blk_end a.out h.out W t.out
    | false=>
      obtain⟨q,rfl⟩:∃q,m=q+2:=by
       match m with
       | 0=>have g:=z.out;rw[l]at g;exact absurd (show zG (pBL 0 d acc r)from g) (by rw[pBL];exact id)
       | 1=>have g:=z.out;rw[l]at g;exact absurd (show zG (pBL 1 d acc r)from g) (by rw[pBL_got hs,pS];exact id)
       | q+2=>exact⟨q,rfl⟩
      have j:T=pBL (q+2) d acc r:=l;have t:=hid j;have E:=hid (show zS (⟨#[125]⟩:ByteArray).data.toList (PR.ok () r)=false from hs);have aH:=hid hs;have P:=hid (show zG (pS (q+1) d r)by have g:=z.out;rw[j,pBL_got hs]at g;exact zu g);have az:=hid (pS_fits (n:=q+1) (d:=d) K);have aw:=hid (show d<=100->∀m,m<=q->CB b V all m (d+1)from fun o m aV=>av.out o m I7);have h:=hid i;have au:=hid A;have aD:=hid L;replace a:=hid c;obtain⟨C,F,rfl⟩:=i.form;clear c i l j A K hs ho L
      go_wp2_with (first
       | (go_at_call 53;(with_reducible refine(zt a.out.st false rfl).mono ?_);rintro e aq ⟨rfl,rfl⟩)
       | (go_at_call 56;(with_reducible refine(zD a.out.st _ E.out).mono ?_);rintro e ar ⟨rfl,c⟩
          replace h:=hid (h.out.keep (zK.did c B));replace a:=hid (a.out.after c);have ax:=a
          clear c)
       | (go_at_call 103;(with_reducible refine(stmt_st aw.out a.out.st ay.out P.out).mono ?_);rintro e aT ⟨v,rfl,c,I⟩
          obtain⟨ai,aj,ak,M,al,ao,N,am,q4,O,an,ap,rfl⟩:=gots_form I P.out;have aA:=hid I;have Q:=hid (h.out.keep (zK.did c B));have aC:=hid h.out.own;replace a:=hid (a.out.after c);have D:=hid (blk_pre Q.out (.int .i64 ai) (.int .i64 aj) (.string ak) (.slice M al ao) (.slice N am q4) (.slice O an ap) QH)
          clear c I)
       | (at_builtin;refine jC rfl (.tmp 16) (.tmp 20) _ rfl w.heap.size 139 aQ _ 6 104 Tryz.underlying91 y.out.1 y.out.2.1 y.out.2.2.1 y.out.2.2.2 rfl I7 (.slice C acc.length F) acc.length _ rfl (by exact D.out.1) ⟨aT.heap.size,0,none⟩ 1 1 [.int .i64 ai,.int .i64 aj,.string ak,.slice M al ao,.slice N am q4,.slice O an ap] rfl rfl (by exact D.out.2.1) Ig If I7 (by exact D.out.2.2) I7 ?_;intro v1 aX ad Z ae;have aE:=hid ad;have aB:=hid Z;have aG:=hid ae;clear ad Z ae))
      have R:=hid (blk_next (d:=d) (q:=q+1) Q.out a.out aA.out az.out aH.out aB.out aG.out aE.out (fun k aN=>(aC.out k aN).1) (by have:=ax.out.off.size;omega) aO I7 X aJ.out B aP);go_roundw
      case rel=>
       obtain⟨aK,p,g,G,H,aL,aM⟩:=R.out.1;exact⟨q+1,aK,p,I7,g,G,t.out.trans H,aL,aM⟩
      case measure=>
       have g:=R.out.2;have G:=au.out;have H:=aD.out;simp only[G,H]at *;omega
theorem block_all(b:Nat)(V:Value)(all:List Tok):∀(n:Nat),∀m,m<=n->∀d:Int,0<=d->d<=101->CB b V all m d
 | 0,m,hm,d,h1,h2=>by
   obtain rfl:m=0:=I7
   intro w x a c;cases ho:zl x with
   | true=>exact(blk_over a ho d).mono fun e w' ⟨i,h⟩=>i ▸ un_over ho h [] (slS_nil _ _)
   | false=>
     cases x with
     | ok u r=>exact absurd (show zG (pB 0 d r)from c) (by rw[pB];exact id)
     | bad r=>cases ho
     | deep r=>cases ho
     | out=>exact absurd a id
 | n+1,m,hm,d,h1,h2=>by
   have g:=block_all b V all n;by_cases j:m<=n
   .exact g m j d h1 h2
   .obtain rfl:m=n+1:=by omega
    intro w x a c
    exact blk_any (n:=n) (fun l q k=>g q k (d+1) I7 I7) a ⟨h1,I7⟩ _ (by
     cases x with
     | ok u r=>show pB (n+1) d r=_;rw[pB];rfl
     | _=>rfl) c
theorem pblock_any{b:Nat}{V:Value}{all:List Tok}{n:Nat}{d:Int}(a:0<=d)(c:d<=101):CB b V all n d:=block_all b V all n n Zr d a c
structure Knd (β:Type) where
 T:TypeId
 n:Nat
 cs:β->List Value
 inn:Nat->World->β->Prop
 len:∀p,(cs p).length=n
 mono:∀{B B':Nat} {w w':World} (p:β),(∀g o u,CellB B w g o u->CellB B' w' g o u)->inn B w p->inn B' w' p
def OutK{β:Type}(K:Knd β)(B:Nat)(w:World)(v:Value)(ps:List β):Prop:=
 w.ownsRow B K.T K.n v ps.length (ps.flatMap K.cs)/\∀p∈ps,K.inn w.heap.size (mask (yI B v) w) p
def FrK{β:Type}(K:Knd β)(L:Nat)(w:World)(p:β):Prop:=K.inn w.heap.size (mask (low L) w) p
section
variable {β:Type} {K:Knd β} {B:Nat} {w w':World} {v:Value} {ps:List β}
theorem OutK.nil(K:Knd β)(B:Nat)(w:World):OutK K B w (.slice none 0 0) []:=⟨World.ownsRow_nil w B _ _,fun p a=>Ii⟩
theorem OutK.form(b:OutK K B w v ps):∃a c,v=.slice a ps.length c:=zU b.1
theorem OutK.own(a:OutK K B w v ps):∀k,v.ownBlock=some k->k<w.heap.size/\B<=k:=qP a.1
theorem inn_mask{p q:Nat->Bool}{x:β}(b:K.inn w.heap.size (mask p w) x)(i:w.heap.size<=w'.heap.size)(d:∀k,k<w.heap.size->p k=false->q k=false/\w'.heap[k]? =w.heap[k]?):K.inn w'.heap.size (mask q w') x:=
 K.mono x (fun g o u a=>by
  obtain⟨e,a⟩:=jJ a;obtain⟨h,c⟩:=d g a.1 e
  exact jK h ⟨Nat.lt_of_lt_of_le a.1 i,(World.cell?_of_block (w:=w) c).trans a.2⟩) b
theorem OutK.keep(a:OutK K B w v ps)(k:zK B w w'):OutK K B w' v ps:=
 ⟨zm a.1 fun j b=>k.2 j (a.own j b).1 (a.own j b).2,fun p d=>inn_mask (a.2 p d) k.1 fun j b c=>⟨c,k.2 j b (qQ.1 c).1⟩⟩
theorem OutK.app{L:Nat}{W:World}{v':Value}{p:β}(y:OutK K B w v ps)(A:FrK K L w p)(E:B<=L)(z:∀k,v.ownBlock=some k->k<L)
 (h:Below w.heap.size w W) (t:W.grownBy w' v.ownBlock) (D:xG W v v') (C:w'.ownsRow B K.T K.n v' (ps.length+1) (ps.flatMap K.cs++K.cs p)):OutK K B w' v' (ps++[p]):=by
 have x:w.heap.size<=w'.heap.size:=Nat.le_trans h.size t.size
 have r:∀j,j<w.heap.size->v.ownBlock≠some j->v'.ownBlock≠some j/\w'.heap[j]? =w.heap[j]?:=fun j b u=>by
  refine⟨fun a=>?_,(t.block j (Nat.lt_of_lt_of_le b h.size) (fun e=>u e.symm)).trans (h.block j b)⟩;rcases D with c|⟨g,c,o⟩
  .exact u (c ▸ a)
  .rw[c]at a
   injection a with a;have:=h.size;omega
 refine⟨?_,fun q d=>?_⟩
 .rw[List.flatMap_append,List.length_append]
  simpa using C
 .rcases List.mem_append.1 d with d|d
  .refine inn_mask (y.2 q d) x fun j b m=>?_
   obtain⟨c,o⟩:=qQ.1 m;obtain⟨i,l⟩:=r j b o;exact⟨qQ.2 ⟨c,i⟩,l⟩
  .obtain rfl:=List.mem_singleton.1 d
   refine inn_mask A x fun j b m=>?_
   have F:=kR.1 m;obtain⟨i,l⟩:=r j b (fun a=>by have:=z j a;omega);exact⟨qQ.2 ⟨I7,i⟩,l⟩
theorem OutK.pre(b:OutK K B w v ps)(a:List Value)(d:B<=w.heap.size):
 (w.alloc (.cells a.toArray K.T)).ownsRow B K.T K.n v ps.length (ps.flatMap K.cs)/\
 (∀j u,a[j]? =some u->(w.alloc (.cells a.toArray K.T)).cell? ((⟨w.heap.size,0,none⟩:Addr).add j)=some u)/\B<=(w.alloc (.cells a.toArray K.T)).heap.size:=by
 refine⟨qR b.1 ((Below.refl w.heap.size w).alloc Zr _) Zr,fun j u c=>?_,Ic⟩;rw[show(⟨w.heap.size,0,none⟩:Addr).add j=⟨w.heap.size,j,none⟩by unfold Addr.add;split <;> simp_all];exact(cell_of_row _ w.heap.size j _ _ (0,0) (heap_alloc_new w _)).trans Il
theorem rdK_of{α:Type}(K:Knd β)(f:β->α){a:Nat}{W:World}{g:Nat}{F:α->Nat->Nat->Prop}(hF:∀p o,(∀j u,(K.cs p)[j]? =some u->CellB a W g (o+j) u)->K.inn a W p->F (f p) g o):
 ∀(ps:List β) (o:Nat),(∀j u,(ps.flatMap K.cs)[j]? =some u->CellB a W g (o+j) u)->(∀p∈ps,K.inn a W p)->RdL K.n F (ps.map f) g o
 | [],_,_,_=>trivial
 | p::r,o,hc,hp=>by
   rw[List.flatMap_cons]at hc;refine⟨hF p o (fun j u b=>hc j u ?_) (hp p (List.mem_cons_self ..)),rdK_of K f hF r (o+K.n) (fun j u b=>?_) fun q c=>hp q (List.mem_cons_of_mem _ c)⟩
   .rw[List.getElem?_append_left (List.getElem?_eq_some_iff.1 b).1]
    exact b
   .have:=hc (j+K.n) u (by rw[List.getElem?_append_right (by rw[K.len];omega),K.len,Nat.add_sub_cancel];exact b)
    rw[show o+K.n+j=o+(j+K.n)by omega];exact this
theorem OutK.read{α:Type}(f:β->α){F:Nat->World->α->Nat->Nat->Prop}(hF:∀b W p g o,(∀j u,(K.cs p)[j]? =some u->CellB b W g (o+j) u)->K.inn b W p->F b W (f p) g o)(c:OutK K B w v ps)(t:ps.length<=281474976710656):
 v9 v (ps.map f).length (RdL K.n (F w.heap.size (mask (low B) w)) (ps.map f)):=by
 have A:∀g o u,CellB w.heap.size (mask (yI B v) w) g o u->CellB w.heap.size (mask (low B) w) g o u:=fun g o u d=>by
  obtain⟨z,d⟩:=jJ d;exact jK (kR.2 (qQ.1 z).1) d
 obtain⟨x,y⟩:=c;rcases x.2 with⟨rfl,k⟩|⟨g,h,i,rfl,l,e,C,D,E,m⟩
 .have:ps=[]:=List.eq_nil_of_length_eq_zero k
  subst this;exact⟨none,0,rfl,Nat.zero_le _,fun c=>absurd c Ia⟩
 .refine⟨_,h,?_,?_,fun _=>⟨g,0,rfl,?_⟩⟩
  .rw[List.length_map]
  .rw[List.length_map];exact t
  .have q:g<w.heap.size:=(Array.getElem?_eq_some_iff.1 e).1
   refine rdK_of K f (fun p o=>hF _ _ p g o) ps 0 (fun j u a=>?_) fun p r=>K.mono p A (y p r)
   refine jK (kR.2 l) ⟨q,?_⟩;rw[Nat.zero_add,cell_of_row w g j i _ (0,0) e];rw[<-m,List.getElem?_take]at a;split at a
   .simpa using a
   .cases a
end
def kP:Knd Pa where
 T:=100
 n:=2
 cs p:=[.string p.name,.int .i64 p.type]
 inn _ _ _:=True
 len _:=rfl
 mono _ _ h:=h
def kA:Knd Ar where
 T:=80
 n:=2
 cs p:=[.string p.name,.int .i64 p.size]
 inn _ _ _:=True
 len _:=rfl
 mono _ _ h:=h
theorem RdP.imp{B b:Nat}{w w':World}(d:∀g o u,CellB B w g o u->CellB b w' g o u)(a:Pa)(g o:Nat)(c:RdP B w a g o):RdP b w' a g o:=⟨d _ _ _ c.1,d _ _ _ c.2⟩
theorem SlP.imp{B b:Nat}{w w':World}(d:∀g o u,CellB B w g o u->CellB b w' g o u){v:Value}{l:List Pa}(c:SlP B w v l):SlP b w' v l:=⟨v9.imp c.1 fun g o=>RdL.imp (fun a g o=>RdP.imp d a g o) l g o,c.2⟩
structure FuV where
 f:Fu
 v2:Value
 v3:Value
def kF:Knd FuV where
 T:=93
 n:=4
 cs p:=[.string p.f.name,.int .i64 p.f.type,p.v2,p.v3]
 inn N w p:=SlP N w p.v2 p.f.params/\SlS N w p.v3 p.f.body
 len _:=rfl
 mono _ hc h:=⟨h.1.imp hc,h.2.imp hc⟩
theorem OutK.params{B:Nat}{w:World}{v:Value}{ps:List Pa}(d:OutK kP B w v ps)(k:ps.length<=281474976710656):SlP w.heap.size (mask (low B) w) v ps:=by
 have:=d.read (fun p=>p) (F:=fun b W a g o=>RdP b W a g o) (fun b W p g o e _=>⟨e 0 _ rfl,e 1 _ rfl⟩) k;rw[List.map_id']at this;refine⟨this,fun l n c h=>?_⟩;rcases d.1.2 with⟨rfl,r⟩|⟨g,m,q,rfl,t,u,x,y,z,A⟩
 .injection h with _ i j
  omega
 .injection h with _ i j
  omega
theorem OutK.arrays{B:Nat}{w:World}{v:Value}{ps:List Ar}(d:OutK kA B w v ps)(e:ps.length<=281474976710656):SlA w.heap.size (mask (low B) w) v ps:=by
 have:=d.read (fun p=>p) (F:=fun b W a g o=>RdA b W a g o) (fun b W p g o c _=>⟨c 0 _ rfl,c 1 _ rfl⟩) e;rwa [List.map_id']at this
theorem OutK.funcs{B:Nat}{w:World}{v:Value}{ps:List FuV}(e:OutK kF B w v ps)(h:ps.length<=281474976710656):SlF w.heap.size (mask (low B) w) v (ps.map (·.f)):=
 OutK.read (β:=FuV) (α:=Fu) (K:=kF) FuV.f (F:=fun b W a g o=>RdF b W a g o) (fun b W p g o c (d:SlP b W p.v2 p.f.params/\SlS b W p.v3 p.f.body)=>⟨c 0 _ rfl,c 1 _ rfl,⟨_,c 2 _ rfl,d.1⟩,⟨_,c 3 _ rfl,d.2⟩⟩) e h
theorem pa_info:(Tryz.prog.info? 100).map (fun i=>(i.zero,i.size,i.bytes))=some (some (.agg #[.string ⟨#[]⟩,.int .i64 0]),2,24):=by kernel_rfl
theorem ar_info:(Tryz.prog.info? 80).map (fun i=>(i.zero,i.size,i.bytes))=some (some (.agg #[.string ⟨#[]⟩,.int .i64 0]),2,24):=by kernel_rfl
theorem fu_info:(Tryz.prog.info? 93).map (fun i=>(i.zero,i.size,i.bytes))=some (some (.agg #[.string ⟨#[]⟩,.int .i64 0,.slice none 0 0,.slice none 0 0]),4,72):=by kernel_rfl
theorem qo{P:Program}{ops:Array Oper}{o:Oper}{a:Act}{w:World}{K:Act->World->Prop}{Q:Exit->Act->World->Prop}{E:Prop}(S:o.guard=none)(s x:Operand)(t:TypeId)
 (V:o.op=.call { callee:=.builtin .append,args:=#[s,x],argTypes:=#[t,t] })
 (d:Nat) (e:TypeId) (i:TypeInfo) (z:Value) (size h:Nat) (H:P.underlying t=some (.slice e)) (y:P.info? e=some i) (I:i.zero=some z)
 (F:i.size=size) (q:i.bytes=h) (J:z.cells.size=size) (G:0<size)
 (v:Value) (n:Nat) (k:List Value) (W:a.eval s=v) (C:w.ownsRow d e size v n k)
 (g:Addr) (m c:Nat) (b:List Value) (Y:a.eval x=.slice (some g) m c) (A:b.length=m*size) (B:∀j u,b[j]? =some u->w.cell? (g.add j)=some u) (l:∀u∈b,u.oneCell'=true)
 (p:n+m<=maxLen) (r:(n+m)*h<=140737488355328) (R:d<=w.heap.size) (U:0<m)
 (L:∀v' w',w'.ownsRow d e size v' (n+m) (k++b)->w.grownBy w' v.ownBlock->xG w v v'->K (a.put o.dst v') w'):
 if Region.wanted o (yielded ops a.tmps)=true then Oper.wp P o a w K Q else E:=by
 have X:Region.wanted o (yielded ops a.tmps)=true:=by simp[Region.wanted,S]
 rw[if_pos X];obtain⟨v',w',D,M,N,_⟩:=run_append_own (P:=P) w d t o.type e i z size h H y I F q J G v n k C g m c b A B l p r R;have O:=append_at H y I F q J G C A B l p r U D;have T:=L v' w' M N O;unfold Oper.wp execOp;simp only[V,resolve,invoke,builtin,Sem.run_bind,Sem.run_pure,Result.andThen_ok,List.map_toArray,List.map_cons,List.map_nil,W,Y,D];exact T
mutual
def cntS:St->Nat
 | .mk _ _ _ _ thn els=>1+cntSs thn+cntSs els
def cntSs:List St->Nat
 | []=>0
 | s::r=>cntS s+cntSs r
end
section
variable {B b:Nat} {p:Pr} {vX:List Pa} {v0 v1 v:Value} {fs:ByteArray} {ft:Int} {v2 v3:Value} {n:Nat} {w:World} {m:Nat} {so:Obj} {thn els:List St} {v4 v5:Value} {W W':World}
end
abbrev yR(vs:Vals):List ByteArray:=vs.map (·.1)
theorem evAt_nm:∀{vs:Vals} {s:ByteArray} {k:Nat},kB vs s=some k->(yR vs)[k]? =some s
 | [],_,_,a=>Ii
 | x::r,s,k,a=>by
   rw[kB]at a;cases hr:kB r s with
   | some j=>
     rw[hr]at a;injection a with a;subst a;have c:=evAt_nm hr;simpa[yR]using c
   | none=>
     rw[hr]at a;dsimp only at a;by_cases b:x.1=s
     .rw[if_pos b]at a
      injection a with a;subst a;exact congrArg some b
     .rw[if_neg b]at a;cases a
theorem evSet_nm(vs:Vals)(s:ByteArray)(n:Int):yR (y6 vs s n)=yR vs:=by
 unfold y6;cases h:kB vs s with
 | none=>rfl
 | some k=>
   dsimp only;rw[yR,List.map_set];have a:=evAt_nm h;refine List.ext_getElem? fun i=>?_
   rw[List.getElem?_set];by_cases e:k=i
   .subst e
    rw[if_pos rfl];have b:=(List.getElem?_eq_some_iff.1 a).1;rw[if_pos b];exact a.symm
   .rw[if_neg e]
theorem varT_at:∀{v:List Pa} {vs:Vals},yR vs=v.map (·.name)->∀(s:ByteArray),(kB vs s).isSome=(kI v s).isSome
 | [],[],_,_=>rfl
 | x::r,[],h,_=>IC
 | [],x::r,h,_=>IC
 | x::r,y::q,h,s=>by
   simp only[yR,List.map_cons,List.cons.injEq]at h;have a:=varT_at h.2 s;rw[kB,kI];cases h1:kB q s with
   | some j=>
     cases h2:kI r s with
     | some t=>rfl
     | none=>rw[h1,h2]at a;cases a
   | none=>
     cases h2:kI r s with
     | some t=>rw[h1,h2]at a;cases a
     | none=>
       dsimp only;rw[h.1];split <;> rfl
def vH(vs:Vals)(d:List ByteArray):Res yL->Prop
 | .ok h _=>∃q,yR h.2.2=yR vs++q/\(h.1=0->q=d)
 | .fin _=>True
def uR(k:Int)(name:ByteArray):List ByteArray:=if k=1 then[name]else[]
theorem vH.bind{α:Type}{vs:Vals}{d:List ByteArray}{x:Res α}{f:α->RS->Res yL}(b:∀a t,vH vs d (f a t)):vH vs d (x.bind f):=by
 cases x with
 | fin t=>trivial
 | ok a t=>exact b a t
theorem vH.ite{vs:Vals}{d:List ByteArray}{c:Prop}[Decidable c]{x b:Res yL}(e:c->vH vs d x)(g:¬c->vH vs d b):vH vs d (if c then x else b):=by
 by_cases a:c
 .rw[if_pos a];exact e a
 .rw[if_neg a];exact g a
theorem vH.same{vs a:Vals}{b n:Int}{s:RS}(e:yR a=yR vs):vH vs [] (.ok (b,n,a) s):=⟨[],by rw[List.append_nil];exact e,fun _=>rfl⟩
def NmS(vs:Vals):Res yL->Prop
 | .ok h _=>yR h.2.2=yR vs
 | .fin _=>True
theorem NmS.row{vs:Vals}{x:Res yL}(b:NmS vs x):vH vs [] x:=by
 cases x with
 | fin t=>trivial
 | ok a t=>exact⟨[],by rw[List.append_nil];exact b,fun _=>rfl⟩
theorem evLs_nm{f:Vals->St->RS->Res yL}(j:∀vs t s,∃d,vH vs d (f vs t s)):∀(l:List St) (vs:Vals) (s:RS),∃d,vH vs d (kx f vs l s)
 | [],vs,s=>⟨[],vH.same rfl⟩
 | t::r,vs,s=>by
   rw[kx];obtain⟨d,c⟩:=j vs t s;cases e:f vs t s with
   | fin u=>exact⟨[],trivial⟩
   | ok a u=>
     rw[e]at c;obtain⟨q,h,p⟩:=c;show ∃d,vH vs d (if a.1=0 then _ else _);by_cases g:a.1=0
     .rw[if_pos g]
      obtain⟨o,i⟩:=evLs_nm j r a.2.2 u;cases e2:kx f a.2.2 r u with
      | fin x=>exact⟨[],trivial⟩
      | ok b x=>
        rw[e2]at i;obtain⟨k,m,v⟩:=i;exact⟨q++k,q++k,by rw[m,h,List.append_assoc],fun _=>rfl⟩
     .rw[if_neg g]
      exact⟨[],q,h,fun c=>absurd c g⟩
theorem evBk_nm{f:Vals->St->RS->Res yL}(g:∀vs t s,∃d,vH vs d (f vs t s))(vs:Vals)(l:List St)(s:RS):NmS vs (qw f vs l s):=by
 unfold qw;obtain⟨d,b⟩:=evLs_nm g l vs s;cases e:kx f vs l s with
 | fin u=>trivial
 | ok a u=>
   rw[e]at b;obtain⟨q,c,_⟩:=b;show yR (a.2.2.take vs.length)=yR vs;rw[yR,List.map_take];show(yR a.2.2).take _=_;rw[c,List.take_left' Ia]
theorem evW_nm{e:Vals->RS->Res Int}{b:Vals->RS->Res yL}(l:∀vs s,NmS vs (b vs s)):∀(k:Nat) (vs:Vals) (s:RS),NmS vs (evW e b k vs s)
 | 0,_,_=>trivial
 | k+1,vs,s=>by
   rw[evW];cases he:e vs s with
   | fin u=>trivial
   | ok a t=>
     show NmS vs (if a=0 then _ else _);by_cases h:a=0
     .rw[if_pos h];rfl
     .rw[if_neg h]
      have g:=l vs t;cases hx:b vs t with
      | fin u=>trivial
      | ok c u=>
        rw[hx]at g;show NmS vs (if c.1=3 then _ else if c.1=1 then _ else _);by_cases j:c.1=3
        .rw[if_pos j];exact g
        .rw[if_neg j]
         by_cases i:c.1=1
         .rw[if_pos i];exact g
         .rw[if_neg i]
          have m:=evW_nm (e:=e) l k c.2.2 u;cases hy:evW e b k c.2.2 u with
          | fin x=>trivial
          | ok d x=>rw[hy]at m;exact Eq.trans m g
theorem evS_nm(p:Pr):∀(g:Nat) (vs:Vals) (k b:Int) (name:ByteArray) (args:List Ex) (thn els:List St) (s:RS),vH vs (uR k name) (j9 p g vs (.mk k b name args thn els) s)
 | 0,_,_,_,_,_,_,_,_=>by rw[j9];trivial
 | g+1,vs,k,b,name,args,thn,els,s=>by
   have m:∀vs t s,∃d,vH vs d (j9 p g vs t s):=fun vs t s=>by
    obtain⟨k,b,name,args,thn,els⟩:=t;exact⟨_,evS_nm p g vs k b name args thn els s⟩
   have e:∀vs l s,NmS vs (qw (j9 p g) vs l s):=fun vs l s=>evBk_nm m vs l s
   rw[j9];refine vH.bind fun _ t=>vH.ite (fun h=>?_) fun h=>vH.ite (fun i=>?_) fun i=>vH.ite (fun j=>?_) fun j=>vH.bind fun a u=>vH.ite (fun c=>?_) fun c=>?_
   .rw[uR,if_neg I7]
    exact(evW_nm (fun vs s=>e vs thn s) _ vs t).row
   .rw[uR,if_neg I7];exact vH.same rfl
   .rw[uR,if_neg I7];exact vH.same rfl
   .rw[uR,if_pos c]
    exact⟨[name],by simp[yR],fun _=>rfl⟩
   .rw[uR,if_neg c]
    refine vH.ite (fun _=>vH.same (evSet_nm ..)) fun _=>vH.ite (fun _=>vH.bind fun n w=>vH.bind fun _ x=>vH.same rfl) fun _=>vH.ite (fun _=>vH.ite (fun _=>(e vs thn u).row) fun _=>(e vs els u).row) fun _=>vH.ite (fun _=>vH.same rfl) fun _=>vH.ite (fun _=>vH.same rfl) fun _=>vH.same rfl
theorem evPut_is{p:Pr}{name:ByteArray}{i n:Int}{s:RS}{k:Nat}{l:List Int}(a:zb p.arrays name=some k)(b:s.arr[k]? =some l):kY p name i n s=if 0<=i/\i<l.length then .ok () { s with arr:=s.arr.set k (l.set i.toNat n) } else .fin (jq s 3):=by
 unfold kY;rw[a];dsimp only;rw[b]
end Go.Proofs.YthcmenajdcbnnaaGreatDoor
