import Derived.Test.YthcmenajdcbnnaaGreatDoorAtErIn
import Derived.Deep.Onto
set_option linter.unusedSimpArgs false
set_option linter.unusedVariables false
set_option maxRecDepth 100000
set_option maxHeartbeats 99000000
/- What the machine does of a whole program. -/
namespace Go.Proofs.YthcmenajdcbnnaaGreatDoor
open Lib (hid)
open Go.RowKit Go.Maps
theorem chkP_more{p:Pr}(b:(vD p).1=0):dupA p p.arrays=false/\dupF p.funcs=false/\∀f∈p.funcs,endSs f.body=true:=by
 unfold vD at b;by_cases g:prOK p=false
 .rw[if_pos g]at b;exact absurd b QM
 rw[if_neg g]at b;by_cases c:(dupA p p.arrays || dupF p.funcs || !uN p)=true
 .rw[if_pos c]at b;exact absurd b II
 rw[if_neg c]at b;have e:(dupA p p.arrays || dupF p.funcs || !uN p)=false:=Il
 rw[Bool.or_eq_false_iff,Bool.or_eq_false_iff]at e;refine⟨e.1.1,e.1.2,fun f k=>?_⟩;have a:=chkFs_mem b f k;unfold uV at a;by_cases i:dupP f.params=true
 .rw[if_pos i]at a;exact absurd a II
 rw[if_neg i]at a;by_cases d:(zf p f.type f.body f.params f.params.length false 0).1=0
 .rw[if_neg (by rw[d];decide)]at a
  by_cases j:endSs f.body=true
  .exact j
  .rw[if_neg j]at a;exact absurd a (by show(52 :Int)≠0;decide)
 .rw[if_pos d]at a;exact absurd a d
theorem all_ends{p:Pr}(h:(vD p).1=0):AllE p:=⟨(yj h).2.1,(chkP_more h).2.2⟩
theorem fun_ok{p:Pr}(m:(vD p).1=0)(u:∀f∈p.funcs,lenTs f.body 0<=1000000000):FunOk p:=by
 obtain⟨d,q,_⟩:=yj m;obtain⟨r,s,_⟩:=chkP_more m;have hF:=dupF_iff.1 s;have n:=(dupA_iff p).1 r;unfold prOK at d;rw[Bool.and_eq_true,List.all_eq_true,List.all_eq_true]at d;refine⟨fun i j f g t c l e=>?_,fun f c=>?_,fun f c=>⟨(q f c).2,u f c⟩,fun i j f g t c l e=>?_,fun a o=>?_⟩
 .have b:=hF i f c
  have k:=hF j g l;rw[e,k]at b;injection b;omega
 .have b:=d.2 f c
  unfold yF at b;simp only[Bool.and_eq_true]at b;exact yh b.1.1.1.1
 .have b:=(n i f c).1
  have k:=(n j g l).1;rw[e,k]at b;injection b;omega
 .have b:=d.1 a o
  unfold vC at b;simp only[Bool.and_eq_true,decide_eq_true_eq]at b;exact⟨yh b.1,I7,I7⟩
def endC:Res yL->Option Int × RS
 | .ok h s=>(some h.2.1,s)
 | .fin s=>(none,s)
theorem run_to{p:Pr}(e:(vD p).1=0){b:Fu}(f:jH p ⟨#[109,97,105,110]⟩=some b)(g:b.params=[])(c:List Int){F:Nat}(hF:F<=1000000):
 To p 2000000 ⟨jt p c F,[],[⟨genF b,0,evPar b [],[]⟩]⟩ (.stop (endC (qw (j9 p F) [] b.body (jt p c F))).1 (endC (qw (j9 p F) [] b.body (jt p c F))).2):=by
 have i:=(sim_all (all_ends e) 2000000 F).2;have d:evPar b []=[]:=by unfold evPar;rw[List.zip_nil_right]
 have:=sim_body (all_ends e) i (uq f) (l:=[]) (by rw[g];rfl) (t:=jt p c F) (v:=[]) (r:=[]) Zr (beg_shp p c F) (by rw[d];exact⟨QJ,QJ,QJ,Nat.zero_le _⟩);rw[d]at this ⊢;unfold Sm at this;cases hx:qw (j9 p F) [] b.body (jt p c F)with
 | ok a s=>rw[hx]at this;exact this
 | fin s=>rw[hx]at this;exact this
end Go.Proofs.YthcmenajdcbnnaaGreatDoor
namespace Go.Proofs.YthcmenajdcbnnaaGreatDoor
open Lib (hid)
open Go.RowKit
theorem slC_cut{B:Nat}{w:World}{b:Option Addr}{c:Nat}{l:List Int}(a:SlC B w (.slice b l.length c) l){m:Nat}(E:m<=l.length):SlC B w (.slice b m c) (l.take m):=by
 obtain⟨⟨y,A,s,F,hF⟩,p⟩:=a;have D:=p _ _ _ rfl;injection s with i _ f;subst i f;have d:(l.take m).length=m:=IH
 refine⟨⟨b,c,by rw[d],by rw[d];omega,fun q=>?_⟩,fun z n c2 e=>by injection e with _ C f;omega⟩;obtain⟨g,o,j,k⟩:=hF (by rw[d]at q;omega);refine⟨g,o,j,?_⟩
 have v:∀(l:List Int) (m o:Nat),RdL 1 (fun(t:Int) g o=>CellB B w g o (.int .i64 t)) l g o->RdL 1 (fun(t:Int) g o=>CellB B w g o (.int .i64 t)) (l.take m) g o:=by
  intro l
  induction l with
  | nil=>intro m o a;simpa using a
  | cons x r u=>
    intro m o a;cases m with
    | zero=>exact trivial
    | succ m=>exact⟨a.1,u m _ a.2⟩
 exact v l m o k
theorem ins_any(B:Nat)(l:List Int)(v:Value)(w:World)(a:SlC B w v l):
 Calls Tryz.prog 18 #[v] w fun e w'=>∃v',e=.returned v'/\SlC B w v' (l.take 10)/\w=w':=by
 obtain⟨b,c,rfl,i⟩:=a.1.form;have d:l.length<=c:=a.2 _ _ _ rfl;have H:=hid a;clear a;by_cases g:10<l.length
 .have f:10<=c:=by omega
  go_enter Tryz.func18,Tryz.ntmps18;go_wp2_with (fail);go_ret;exact⟨_,rfl,slC_cut H.out I7,rfl⟩
 .go_enter Tryz.func18,Tryz.ntmps18
  go_wp2_with (fail);go_ret;exact⟨_,rfl,by rw[List.take_of_length_le I7];exact H.out,rfl⟩
def RunO(L:Nat)(w:World)(a:Value)(r:Int × Int × List Int × Nat × Nat):Prop:=
 w.ownsRow L 3 1 a r.2.2.1.length (r.2.2.1.map (Value.int .i64))/\r.2.2.1.length<=281474976710656
def runA(a:Value)(r:Int × Int × List Int × Nat × Nat):Value:=.agg #[.int .i64 r.1,.int .i64 r.2.1,a,.int .i64 (r.2.2.2.1:Int),.int .i64 (r.2.2.2.2:Int)]
theorem RunO.run{L:Nat}{w:World}{b:Value}{r:Int × Int × List Int × Nat × Nat}(a:RunO L w b r):RunV w.heap.size w (runA b r) r:=⟨b,rfl,own_ints a.1 rfl a.2,own_capV a.1⟩
theorem RunO.below{L C:Nat}{w w':World}{b:Value}{r:Int × Int × List Int × Nat × Nat}(a:RunO L w b r)(d:Below C w w')(c:w.heap.size<=C):RunO L w' b r:=⟨qR a.1 d c,a.2⟩
theorem RunO.setOff{L g i:Nat}{w:World}{a u:Value}{r:Int × Int × List Int × Nat × Nat}(b:RunO L w a r)(c:a.ownBlock≠some g):RunO L (w.setCell ⟨g,i,none⟩ u) a r:=
 ⟨zm b.1 fun k d=>Below.heap_setCell w ⟨g,i,none⟩ u k (by show k≠g;intro e;subst e;exact c d),b.2⟩
def FrPs(L:Nat)(w:World)(a:List Pa)(v:Value):Prop:=SlP w.heap.size (mask (low L) w) v a
theorem FrPs.keep{L b:Nat}{w w':World}{a:List Pa}{v:Value}(c:FrPs L w a v)(k:zK L w w')(d:b<=L):FrPs b w' a v:=SlP.imp (k.cells d) c
theorem FrPs.form{L:Nat}{w:World}{a:List Pa}{v:Value}(d:FrPs L w a v):∃b c,v=.slice b a.length c:=by
 obtain⟨b,c,e,_⟩:=SlP.form d;exact⟨b,c,e⟩
def FrF(L:Nat)(w:World)(a:Fu)(v:Value):Prop:=∃b c,v=.agg #[.string a.name,.int .i64 a.type,b,c]/\FrPs L w a.params b/\ky L w a.body c
theorem FrF.form{L:Nat}{w:World}{a:Fu}{v:Value}(d:FrF L w a v):∃s t b i c2 c j c3,v=.agg #[.string s,.int .i64 t,.slice b i c2,.slice c j c3]:=by
 obtain⟨k,l,g,e,f⟩:=d;obtain⟨b,c2,rfl⟩:=e.form;obtain⟨c,c3,rfl,_⟩:=f.form;exact⟨_,_,_,_,_,_,_,_,g⟩
theorem gotf_form{L:Nat}{w:World}{x:PR Fu}{v:Value}(d:qy x fun a=>FrF L w a v)(f:zG x):∃s t b g c2 c i c3,v=.agg #[.string s,.int .i64 t,.slice b g c2,.slice c i c3]:=by
 obtain⟨a,e⟩:=d.some f;exact e.form
abbrev fnBox:Obj:=.cells #[.string ⟨#[]⟩,.int .i64 0,.slice none 0 0,.slice none 0 0] 93
abbrev nest4(W:World)(g:Nat)(c0 c1 c2 c3:Value):World:=(((W.setCell ⟨g,0,none⟩ c0).setCell ⟨g,1,none⟩ c1).setCell ⟨g,2,none⟩ c2).setCell ⟨g,3,none⟩ c3
theorem nest4_row{W:World}{g:Nat}{a b c d:Value}{T:TypeId}{fr:Nat × Nat}(e:W.heap[g]? =some (.cells #[a,b,c,d] T fr))(c0 c1 c2 c3:Value):(nest4 W g c0 c1 c2 c3).heap[g]? =some (.cells #[c0,c1,c2,c3] T fr):=
 Lib.heap_setCell_same (Lib.heap_setCell_same (Lib.heap_setCell_same (Lib.heap_setCell_same e c0) c1) c2) c3
theorem zK.nest4{L g:Nat}{w:World}(a:g<L)(c0 c1 c2 c3:Value):zK L w (nest4 w g c0 c1 c2 c3):=
 (((zK.set a 0 c0).trans (zK.set a 1 c1)).trans (zK.set a 2 c2)).trans (zK.set a 3 c3)
theorem four_cells{W:World}{g:Nat}{c0 c1 c2 c3:Value}{T:TypeId}(h:W.heap[g]? =some (.cells #[c0,c1,c2,c3] T (0,0))):
 (W.cell? ⟨g,0,none⟩=some c0/\W.cell? ⟨g,1,none⟩=some c1/\W.cell? ⟨g,2,none⟩=some c2/\W.cell? ⟨g,3,none⟩=some c3)/\∀o,W.frozen? ⟨g,o,none⟩=false:=by
 refine⟨⟨(Lib.cell_of_heap h 0).trans rfl,(Lib.cell_of_heap h 1).trans rfl,(Lib.cell_of_heap h 2).trans rfl,(Lib.cell_of_heap h 3).trans rfl⟩,fun o=>?_⟩;simp[World.frozen?,h]
theorem qd.nest4{b:Nat}{V:Value}{all:List Tok}{x:PR Unit}{w W:World}(e:qd b V all w x W)(d:TokH b V all w){g:Nat}(c:w.heap.size<=g)(a:g≠b)(c0 c1 c2 c3:Value):qd b V all w x (nest4 W g c0 c1 c2 c3):=
 (((e.set d c a 0 c0).set d c a 1 c1).set d c a 2 c2).set d c a 3 c3
def qe(b:Nat)(V:Value)(all:List Tok)(w:World)(x:PR Unit)(W:World)(c0 c1 c2 c3:Value):Prop:=
 qd b V all w x W/\W.heap[w.heap.size]? =some fnBox/\W.heap[w.heap.size+1]? =some (.cells #[c0,c1,c2,c3] 93 (0,0))/\TokH b V all w/\b<w.heap.size
section
variable {b:Nat} {V:Value} {all:List Tok} {w W W':World} {x y:PR Unit} {c0 c1 c2 c3:Value}
theorem qe.start(a:jI b V all x w)(s:ByteArray)(t:Int):qe b V all w x ((w.alloc fnBox).alloc (.cells #[.string s,.int .i64 t,.slice none 0 0,.slice none 0 0] 93)) (.string s) (.int .i64 t) (.slice none 0 0) (.slice none 0 0):=by
 have c:Below w.heap.size w ((w.alloc fnBox).alloc (.cells #[.string s,.int .i64 t,.slice none 0 0,.slice none 0 0] 93)):=(Zb.alloc Zr _).alloc Ic _;refine⟨⟨a.below c,OffB.of_below c a.lt⟩,qE (heap_alloc_new w fnBox) _,?_,a.tok,a.lt⟩;have:=heap_alloc_new (w.alloc fnBox) (.cells #[.string s,.int .i64 t,.slice none 0 0,.slice none 0 0] 93);rw[zA]at this;exact this
theorem qe.did(h:qe b V all w x W c0 c1 c2 c3):qd b V all w x W:=h.1
theorem qe.st(h:qe b V all w x W c0 c1 c2 c3):jI b V all x W:=h.1.1
theorem qe.lt(h:qe b V all w x W c0 c1 c2 c3):b<w.heap.size:=h.2.2.2.2
theorem qe.size(h:qe b V all w x W c0 c1 c2 c3):w.heap.size+1<W.heap.size:=(Array.getElem?_eq_some_iff.1 h.2.2.1).1
theorem qe.step(h:qe b V all w x W c0 c1 c2 c3)(g:qd b V all W y W'):qe b V all w y W' c0 c1 c2 c3:=
 ⟨h.1.after g,q9 g.off (by have:=h.size;omega) (by have:=h.lt;omega) h.2.1,q9 g.off h.size (by have:=h.lt;omega) h.2.2.1,h.2.2.2⟩
theorem qe.alloc(h:qe b V all w x W c0 c1 c2 c3)(o:Obj):qe b V all w x (W.alloc o) c0 c1 c2 c3:=⟨h.1.alloc o,qE h.2.1 o,qE h.2.2.1 o,h.2.2.2⟩
theorem qe.drew(h:qe b V all w x W c0 c1 c2 c3):qe b V all w x W.drew c0 c1 c2 c3:=h.step ⟨h.st.below Zb.drew,OffB.of_below Zb.drew h.st.lt⟩
theorem qe.own(h:qe b V all w x W c0 c1 c2 c3):(W.cell? ⟨w.heap.size,0,none⟩=some (.string ⟨#[]⟩)/\W.cell? ⟨w.heap.size,1,none⟩=some (.int .i64 0)/\W.cell? ⟨w.heap.size,2,none⟩=some (.slice none 0 0)/\W.cell? ⟨w.heap.size,3,none⟩=some (.slice none 0 0))/\∀o,W.frozen? ⟨w.heap.size,o,none⟩=false:=four_cells h.2.1
theorem qe.f(h:qe b V all w x W c0 c1 c2 c3):(W.cell? ⟨w.heap.size+1,0,none⟩=some c0/\W.cell? ⟨w.heap.size+1,1,none⟩=some c1/\W.cell? ⟨w.heap.size+1,2,none⟩=some c2/\W.cell? ⟨w.heap.size+1,3,none⟩=some c3)/\∀o,W.frozen? ⟨w.heap.size+1,o,none⟩=false:=four_cells h.2.2.1
theorem qe.set(h:qe b V all w x W c0 c1 c2 c3)(i:Nat)(u:Value):qd b V all w x (W.setCell ⟨w.heap.size+1,i,none⟩ u)/\(W.setCell ⟨w.heap.size+1,i,none⟩ u).heap[w.heap.size]? =some fnBox:=
 ⟨h.1.set h.2.2.2.1 I7 (by have:=h.lt;omega) i u,(Below.heap_setCell W _ u _ Um).trans h.2.1⟩
theorem qe.set2(h:qe b V all w x W c0 c1 c2 c3)(u:Value):qe b V all w x (W.setCell ⟨w.heap.size+1,2,none⟩ u) c0 c1 u c3:=⟨(h.set 2 u).1,(h.set 2 u).2,Lib.heap_setCell_same h.2.2.1 u,h.2.2.2⟩
theorem qe.set3(h:qe b V all w x W c0 c1 c2 c3)(u:Value):qe b V all w x (W.setCell ⟨w.heap.size+1,3,none⟩ u) c0 c1 c2 u:=⟨(h.set 3 u).1,(h.set 3 u).2,Lib.heap_setCell_same h.2.2.1 u,h.2.2.2⟩
theorem qe.fin(c:qe b V all w y W c0 c1 c2 c3){X:PR Fu}(e:X.un=y)(d:qy X fun a=>FrF w.heap.size (_root_.Go.Proofs.YthcmenajdcbnnaaGreatDoor.nest4 W w.heap.size c0 c1 c2 c3) a (.agg #[c0,c1,c2,c3])):
 qM b V all w X (FrF w.heap.size) (.returned (.agg #[c0,c1,c2,c3])) (_root_.Go.Proofs.YthcmenajdcbnnaaGreatDoor.nest4 W w.heap.size c0 c1 c2 c3):=
 ⟨_,rfl,e ▸ c.1.nest4 c.2.2.2.1 Zr QT _ _ _ _,d⟩
theorem qe.read(h:qe b V all w x W c0 c1 c2 c3):((((W.setCell ⟨w.heap.size,0,none⟩ c0).setCell ⟨w.heap.size,1,none⟩ c1).setCell ⟨w.heap.size,2,none⟩ c2).setCell ⟨w.heap.size,3,none⟩ c3).cell? ⟨w.heap.size,0,none⟩=some c0/\((((W.setCell ⟨w.heap.size,0,none⟩ c0).setCell ⟨w.heap.size,1,none⟩ c1).setCell ⟨w.heap.size,2,none⟩ c2).setCell ⟨w.heap.size,3,none⟩ c3).cell? ⟨w.heap.size,1,none⟩=some c1/\
 ((((W.setCell ⟨w.heap.size,0,none⟩ c0).setCell ⟨w.heap.size,1,none⟩ c1).setCell ⟨w.heap.size,2,none⟩ c2).setCell ⟨w.heap.size,3,none⟩ c3).cell? ⟨w.heap.size,2,none⟩=some c2/\((((W.setCell ⟨w.heap.size,0,none⟩ c0).setCell ⟨w.heap.size,1,none⟩ c1).setCell ⟨w.heap.size,2,none⟩ c2).setCell ⟨w.heap.size,3,none⟩ c3).cell? ⟨w.heap.size,3,none⟩=some c3:=(four_cells (nest4_row h.2.1 c0 c1 c2 c3)).1
end
def uJ(m:Nat)(acc:List Pa)(r:List Tok):PR (List Pa):=if ze [44] r=true then pPL m acc r.tail else(zN [41] r).bind fun _ r=>.ok acc r
def qg(r:List Tok):PR Pa:=(pTy r).bind fun t r=>(want 1 r).bind fun s r=>.ok ⟨s,t⟩ r
theorem pPL_got{m:Nat}{acc:List Pa}{r:List Tok}:pPL (m+1) acc r=(qg r).bind fun p r=>uJ m (acc++[p]) r:=by
 rw[pPL];unfold qg;simp only[zV];rfl
theorem xt{r:List Tok}(b:zk r):zc 1 r (qg r):=by
 unfold qg;exact(xE b).bind (m:=0) (fun t r _ a=>(qc a 1 I8).bind (n:=0) (fun _ r _ a=>zc.self a _) I7) I7
theorem parOne_un(r:List Tok):(qg r).un=((pTy r).un.bind fun _ r=>want 1 r).un:=by
 unfold qg;cases pTy r with
 | ok t r=>
   show((want 1 r).bind fun s r=>PR.ok (⟨s,t⟩:Pa) r).un=(want 1 r).un;rw[jE];rfl
 | _=>rfl
theorem ty_ends(r:List Tok):zG (pTy r):=by
 unfold pTy zN;split
 .trivial
 .split <;> trivial
theorem parOne_got{r:List Tok}{tv:Int}{s:ByteArray}(c:qy (pTy r) fun a=>a=tv)(d:qy ((pTy r).un.bind fun _ r=>want 1 r) fun a=>a=s):qy (qg r) fun p=>p=⟨s,tv⟩:=by
 unfold qg;cases hx:pTy r with
 | ok t b=>
   rw[hx]at c d;obtain rfl:t=tv:=c;have f:qy (want 1 b) fun a=>a=s:=d
   show qy ((want 1 b).bind fun s r=>PR.ok (⟨s,t⟩:Pa) r) _;exact f.bind (fun a r _ e=>by subst e;exact rfl) fun a e=>⟨_,rfl⟩
 | bad b=>exact⟨_,rfl⟩
 | deep b=>exact⟨_,rfl⟩
 | out=>trivial
theorem ty_got{r:List Tok}{w:World}{v:Value}(b:qy (pTy r) fun a=>IntV w a v):∃tv,v=.int .i64 tv/\qy (pTy r) fun a=>a=tv:=by
 obtain⟨tv,g⟩:=b.some (ty_ends r);have d:v=.int .i64 tv:=g;refine⟨tv,d,b.imp fun a f=>?_⟩;have c:v=.int .i64 a:=f;rw[d]at c;injection c with _ e;exact e.symm
theorem fn_next{b:Nat}{V:Value}{all:List Tok}{w c w5:World}{Y:PR Unit}{c0 c1 v c3 d:Value}{acc:List Pa}{q:Pa}(a:qe b V all w Y c c0 c1 v c3)(m:OutK kP (w.heap.size+2) c v acc)
 (g:(c.alloc (.cells #[.string q.name,.int .i64 q.type] 100)).grownBy w5 v.ownBlock) (u:xG (c.alloc (.cells #[.string q.name,.int .i64 q.type] 100)) v d)
 (s:w5.ownsRow (w.heap.size+2) 100 2 d (acc.length+1) (acc.flatMap kP.cs++[.string q.name,.int .i64 q.type])):
 qe b V all w Y w5 c0 c1 v c3/\qe b V all w Y (w5.setCell ⟨w.heap.size+1,2,none⟩ d) c0 c1 d c3/\OutK kP (w.heap.size+2) (w5.setCell ⟨w.heap.size+1,2,none⟩ d) d (acc++[q]):=by
 have f:Below c.heap.size c (c.alloc (.cells #[.string q.name,.int .i64 q.type] 100)):=Zb.alloc Zr _;have p:OutK kP (w.heap.size+2) w5 d (acc++[q]):=m.app (L:=c.heap.size) trivial IZ (fun k r=>(m.own k r).1) f g u s;have t:∀j,v.ownBlock=some j->w.heap.size+2<=j:=fun j i=>(m.own j i).2
 have l:∀j,j<c.heap.size->j<w.heap.size+2->w5.heap[j]? =c.heap[j]?:=fun j i z=>(g.block j (Nat.lt_of_lt_of_le i f.size) (fun e=>by have:=t j e.symm;omega)).trans (f.block j i)
 have x:=a.size;have y:=a.lt;have o:OffB b w.heap.size w w5:=a.did.off.trans (OffB.mk' (g.os.trans f.os) (g.tape.trans f.tape) (g.output.trans f.output) (Nat.le_trans f.size g.size) a.st.lt fun j i _=>l j Uz I7);have n:qe b V all w Y w5 c0 c1 v c3:=⟨⟨a.st.move a.2.2.2.1 o (l b a.st.lt I7),o⟩,(l _ I7 I7).trans a.2.1,(l _ x I7).trans a.2.2.1,a.2.2.2⟩
 exact⟨n,n.set2 d,p.keep (zK.set I7 2 d)⟩
def FnB(b:Nat)(V:Value)(all:List Tok)(w:World)(T:PR (List Pa))(n:Nat)(c0 c1:Value)(wr:World):Prop:=
 ∃(m:Nat) (acc:List Pa) (y:PR Unit) (v:Value),m<=n/\OutK kP (w.heap.size+2) wr v acc/\qe b V all w y wr c0 c1 v (.slice none 0 0)/\T=y.bind (fun _ r=>uJ m acc r)/\(zl y=false->acc.length<=xx b wr)/\acc.length<=2000000
def FnRel(b:Nat)(V:Value)(all:List Tok)(w:World)(T:PR (List Pa))(n:Nat)(c0 c1:Value)(X:PR Unit)(a:Value)(wr:World):Prop:=
 (a=.bool true/\qe b V all w X wr c0 c1 (.slice none 0 0) (.slice none 0 0))\/(a=.bool false/\FnB b V all w T n c0 c1 wr)
theorem fn_rel{b:Nat}{V:Value}{all:List Tok}{w W:World}{c0 c1 f:Value}{acc:List Pa}{q:Pa}{r:List Tok}{T:PR (List Pa)}{m n:Nat}(k:m<=n)(d:T=pPL (m+1) acc r)(a:qe b V all w (qg r).un W c0 c1 f (.slice none 0 0))(j:OutK kP (w.heap.size+2) W f (acc++[q]))
 (s:qy (qg r) fun p=>p=q) (t:zk r) (x:r.length<=all.length) (v:acc.length<=all.length-r.length) (u:acc.length<=1000000):FnB b V all w T n c0 c1 W/\all.length-r.length<=xx b W:=by
 rw[pPL_got]at d;have hF:=xt t;have g:(acc++[q]).length=acc.length+1:=Ia
 cases hx:qg r with
 | ok p c=>
   rw[hx]at d a s hF;obtain rfl:p=q:=s;have e:zW b V all c false false W:=a.st;have l:=qt e;have o:=(show zH 1 r c from hF).2.2;exact⟨⟨m,acc++[p],.ok () c,f,k,j,a,d,fun _=>by rw[g];omega,by rw[g];omega⟩,I7⟩
 | bad c=>
   rw[hx]at d a hF;have e:zW b V all c true false W:=a.st;have l:=qt e;have o:=(show zH 0 r c from hF).2.2;exact⟨⟨m,acc++[q],.bad c,f,k,j,a,d,(fun i=>by cases i),by rw[g];omega⟩,I7⟩
 | deep c=>
   rw[hx]at d a hF;have e:zW b V all c false true W:=a.st;have l:=qt e;have o:=(show zH 0 r c from hF).2.2;exact⟨⟨m,acc++[q],.deep c,f,k,j,a,d,(fun i=>by cases i),by rw[g];omega⟩,I7⟩
 | out=>
   rw[hx]at a;exact absurd a.st id
theorem par_end{m:Nat}{acc:List Pa}{y:PR Unit}(a:zS [44] y=false):y.bind (fun _ r=>uJ m acc r)=y.bind fun _ r=>(zN [41] r).bind fun _ r=>.ok acc r:=by
 cases y with
 | ok u r=>
   show uJ m acc r=_;unfold uJ;rw[if_neg Ui];rfl
 | _=>rfl
theorem par_fin{y:PR Unit}{acc:List Pa}{P:List Pa->Prop}(h:P acc):qy (y.bind fun _ r=>(zN [41] r).bind fun _ r=>.ok acc r) P:=by
 cases y with
 | ok u r=>exact yd h
 | bad r=>exact⟨acc,h⟩
 | deep r=>exact⟨acc,h⟩
 | out=>trivial
theorem par_un(y:PR Unit)(acc:List Pa):(y.bind fun _ r=>(zN [41] r).bind fun _ r=>PR.ok acc r).un=y.bind fun _ r=>zN [41] r:=by
 rw[jE];simp only[ki]
def fnK(n:Nat)(t:Int)(s:ByteArray)(ps:List Pa)(r:List Tok):PR Fu:=(pB n 1 r).bind fun b r=>.ok ⟨s,t,ps,b⟩ r
def parS(n:Nat)(r:List Tok):PR (List Pa):=if ze [41] r=true then .ok [] r.tail else pPL n [] r
theorem pFn_split(n:Nat)(t:Int)(s:ByteArray)(x:PR Unit):(x.bind fun _ r=>pFn n t s r)=((x.bind fun _ r=>zN [40] r).bind fun _ r=>parS n r).bind fun ps r=>fnK n t s ps r:=by
 unfold pFn pPs parS fnK;simp only[zV]
theorem fn_ends{n:Nat}{t:Int}{s:ByteArray}{T:PR (List Pa)}(h:zG (T.bind fun ps r=>fnK n t s ps r)):zG (T.un.bind fun _ r=>pB n 1 r):=by
 cases T with
 | ok ps r=>exact zu (show zG (fnK n t s ps r)from h)
 | bad r=>trivial
 | deep r=>trivial
 | out=>exact h
theorem fn_un{n:Nat}{t:Int}{s:ByteArray}{T:PR (List Pa)}:(T.bind fun ps r=>fnK n t s ps r).un=(T.un.bind fun _ r=>pB n 1 r).un:=by
 cases T with
 | ok ps r=>
   show(fnK n t s ps r).un=(pB n 1 r).un;unfold fnK;rw[jE];rfl
 | _=>rfl
theorem fn_got{n:Nat}{t:Int}{s:ByteArray}{T:PR (List Pa)}{P1:List Pa->Prop}{P2:List St->Prop}{Q:Fu->Prop}(a:qy T P1)(g:qy (T.un.bind fun _ r=>pB n 1 r) P2)(k:zG (T.un.bind fun _ r=>pB n 1 r))(c:∀ps b,P1 ps->P2 b->Q ⟨s,t,ps,b⟩):qy (T.bind fun ps r=>fnK n t s ps r) Q:=by
 obtain⟨f,i⟩:=g.some k;cases T with
 | ok ps r=>
   show qy ((pB n 1 r).bind fun b r=>PR.ok (⟨s,t,ps,b⟩:Fu) r) Q;have j:qy (pB n 1 r) P2:=g;exact j.bind (fun b r _ d=>c ps b a d) fun b d=>⟨_,c ps b a d⟩
 | bad r=>obtain⟨ps,e⟩:=a;exact⟨_,c ps f e i⟩
 | deep r=>obtain⟨ps,e⟩:=a;exact⟨_,c ps f e i⟩
 | out=>trivial
theorem fn_done{b:Nat}{V:Value}{all:List Tok}{w d g:World}{n:Nat}{t:Int}{s:ByteArray}{T:PR (List Pa)}{v c:Value}{acc:List Pa}(e:qe b V all w T.un d (.string s) (.int .i64 t) v (.slice none 0 0))(j:OutK kP (w.heap.size+2) d v acc)(x:acc.length<=2000000)(k:qy T fun ps=>ps=acc)
 (f:qd b V all d (T.un.bind fun _ r=>pB n 1 r).un g) (i:qy (T.un.bind fun _ r=>pB n 1 r) fun a=>ky d.heap.size g a c) (m:zG (T.un.bind fun _ r=>pB n 1 r)):
 qM b V all w (T.bind fun ps r=>fnK n t s ps r) (FrF w.heap.size) (.returned (.agg #[.string s,.int .i64 t,v,c])) (nest4 (g.setCell ⟨w.heap.size+1,3,none⟩ c) w.heap.size (.string s) (.int .i64 t) v c):=by
 have y:=e.size;have u:=e.lt;have q:=f.off.size;refine qe.fin ((e.step f).set3 c) fn_un (fn_got k i m fun ps p o l=>?_);subst o;refine⟨v,c,rfl,?_,?_⟩
 .refine FrPs.keep (L:=w.heap.size+2) (j.params I7) ?_ I7
  exact((zK.did f I7).trans (zK.set I7 3 c)).trans (zK.nest4 I7 _ _ _ _)
 .exact ky.keep l ((zK.set I7 3 c).trans (zK.nest4 I7 _ _ _ _)) I7
theorem fn_none{b:Nat}{V:Value}{all:List Tok}{n:Nat}{x:PR Unit}{w:World}{t:Int}{s:ByteArray}{r:List Tok}(i:jI b V all x w)(m:(x.bind fun _ r=>zN [40] r)=.ok () r)(j:ze [41] r=true)(l:zG (x.bind fun _ r=>pFn n t s r)):
 Calls Tryz.prog 59 #[.pointer (some ⟨b,0,none⟩),.int .i64 t,.string s] w (qM b V all w (x.bind fun _ r=>pFn n t s r) (FrF w.heap.size)):=by
 have p:(x.bind fun _ r=>pFn n t s r)=(PR.ok [] r.tail).bind fun ps r=>fnK n t s ps r:=by
  rw[pFn_split,m];show(parS n r).bind _=_;unfold parS;rw[if_pos j]
 rw[p]at l ⊢;have g:=hid (show zG ((PR.ok () r.tail).bind fun _ r=>pB n 1 r)from fn_ends l);have a:=hid (qe.start i s t);have C:=hid m;have D:=hid (show zS (⟨#[41]⟩:ByteArray).data.toList (PR.ok () r)=true from j);have y:=hid (pblock_any (b:=b) (V:=V) (all:=all) (n:=n) (d:=1) I8 I8);have J:=i.lt;clear i m j l p;go_enter Tryz.func59,Tryz.ntmps59
 go_wp2_with (first
  | (go_at_call 58;(with_reducible refine(zY a.out.st ⟨#[40]⟩).mono ?_);rintro e G ⟨rfl,c⟩
     replace a:=hid (show qe b V all w (.ok () r) G _ _ _ _ from C.out ▸ a.out.step c)
     clear c)
  | (go_at_call 56;(with_reducible refine(zi a.out.st _ D.out).mono ?_);rintro e H ⟨rfl,c⟩
     replace a:=hid (show qe b V all w (.ok () r.tail) H _ _ _ _ from a.out.step c)
     clear c)
  | (go_at_call 82;(with_reducible refine(y.out.call a.out.st g.out).mono ?_);rintro e Q ⟨P,rfl,c,k⟩
     obtain⟨o,q,u,rfl⟩:=kl k g.out;have B:=hid k;have z:=a;have A:=hid c;replace a:=hid (a.out.step c);obtain⟨⟨c0,c1,c2,c3⟩,I⟩:=a.out.own;obtain⟨⟨K,L,M,N⟩,O⟩:=a.out.f
     clear c k))
 obtain⟨E,f1,F,f3⟩:=(a.out.set3 (.slice o q u)).read;refine bodyPost_ret (v:=.agg #[.string s,.int .i64 t,.slice none 0 0,.slice o q u]) (by simp[results,Tryz.results59,go_sem,E,f1,F,f3]) rfl ?_;exact fn_done (T:=.ok [] r.tail) z.out (OutK.nil kP _ _) Ia rfl A.out B.out g.out
theorem fn_some{b:Nat}{V:Value}{all:List Tok}{n:Nat}{x:PR Unit}{w:World}{t:Int}{s:ByteArray}(au:jI b V all x w)(Z:zS [41] (x.bind fun _ r=>zN [40] r)=false)(ab:zG (x.bind fun _ r=>pFn n t s r)):
 Calls Tryz.prog 59 #[.pointer (some ⟨b,0,none⟩),.int .i64 t,.string s] w (qM b V all w (x.bind fun _ r=>pFn n t s r) (FrF w.heap.size)):=by
 obtain⟨X,aa⟩:∃X,(x.bind fun _ r=>zN [40] r)=X:=⟨_,rfl⟩
 obtain⟨T,C⟩:∃T,(X.bind fun _ r=>parS n r)=T:=⟨_,rfl⟩
 have aN:(x.bind fun _ r=>pFn n t s r)=T.bind fun ps r=>fnK n t s ps r:=by rw[pFn_split,aa,C]
 rw[aN]at ab ⊢;rw[aa]at Z
 have aO:T=X.bind fun _ r=>pPL n [] r:=by
  rw[<-C];cases X with
  | ok u r=>show parS n r=pPL n [] r;unfold parS;rw[if_neg (by rw[show ze [41] r=false from Z];decide)]
  | _=>rfl
 have H:=hid (fn_ends ab);have aP:zG T:=zu ab;have aM:=hid aP;have a:=hid (qe.start au s t);have aZ:=hid aa;have am:=hid aO;have a0:=hid (show zS (⟨#[41]⟩:ByteArray).data.toList X=false from Z);have aL:=hid (pblock_any (b:=b) (V:=V) (all:=all) (n:=n) (d:=1) I8 I8);have bk:=au.lt;clear au aa Z ab aN C aO aP;go_enter Tryz.func59,Tryz.ntmps59
 go_wp2_with (first
  | (go_at_call 58;(with_reducible refine(zY a.out.st ⟨#[40]⟩).mono ?_);rintro e bg ⟨rfl,c⟩
     replace a:=hid (show qe b V all w X bg _ _ _ _ from aZ.out ▸ a.out.step c)
     clear c)
  | (go_at_call 56;(with_reducible refine(zD a.out.st _ a0.out).mono ?_);rintro e w2 ⟨rfl,c⟩
     replace a:=hid (a.out.step c)
     clear c))
 go_loopw [8] (fun ar wr=>FnRel b V all w T n (.string s) (.int .i64 t) X ar wr) (fun ar wr=>2*(all.length-xx b wr)+firstN ar)
 case atStart=>exact .inl ⟨rfl,a.out⟩
 case round=>
  obtain⟨aV,aR,aS,aT,aU⟩:=info_parts pa_info;have A:=hid (And.intro aR (And.intro aS (And.intro aT aU)));clear aR aS aT aU;rcases hrel with⟨rfl,B⟩|⟨rfl,m,acc,y,v,bl,J,B,C,ax,aw⟩
  .replace a:=hid B
   have g:=hid (OutK.nil kP (w.heap.size+2) wr);clear B;cases ho:zl X with
   | true=>
     have j:T=X.bind fun _ r=>(zN [41] r).bind fun _ r=>.ok [] r:=am.out.trans (over_bind ho _ _)
     have an:=hid (show T.un=X.bind fun _ r=>zN [41] r by rw[j,par_un]);have D:=hid (show qy T fun ps=>ps=[]by rw[j];exact par_fin rfl);have aw:([]:List Pa).length<=2000000:=Ia
     have aX:=hid ho;clear ho j
     go_wp2_with (first
      | (go_at_call 53;(with_reducible refine(zt a.out.st true aX.out).mono ?_);rintro e w2 ⟨rfl,rfl⟩)
      | (go_at_call 58;(with_reducible refine(zY a.out.st ⟨#[41]⟩).mono ?_);rintro e aK ⟨rfl,c⟩
         replace g:=hid (g.out.keep (zK.did c I7));replace a:=hid (show qe b V all w T.un aK _ _ _ _ from an.out ▸ a.out.step c)
         clear c)
      | (go_at_call 82;(with_reducible refine(aL.out.call a.out.st H.out).mono ?_);rintro e bh ⟨bf,rfl,c,i⟩
         obtain⟨L,U,W,rfl⟩:=kl i H.out;have aj:=hid i;have ag:=a;have ah:=hid c;replace a:=hid (a.out.step c);obtain⟨⟨c0,c1,c2,c3⟩,a2⟩:=a.out.own;obtain⟨⟨aD,aE,aF,aG⟩,aH⟩:=a.out.f
         clear c i))
     obtain⟨ap,f1,aq,f3⟩:=(a.out.set3 (.slice L U W)).read;refine bodyPost_ret (v:=.agg #[.string s,.int .i64 t,.slice none 0 0,.slice L U W]) (by simp[results,Tryz.results59,go_sem,ap,f1,aq,f3]) rfl ?_;exact fn_done ag.out g.out aw D.out ah.out aj.out H.out
   | false=>
     obtain⟨r,rfl⟩:∃r,X=.ok () r:=by
      cases X with
      | ok u r=>exact⟨r,rfl⟩
      | bad r=>cases ho
      | deep r=>cases ho
      | out=>exact absurd a.out.st id
     obtain⟨K,aC,a7,aQ,ba⟩:=xZ a.out.did
     obtain⟨q,rfl⟩:∃q,n=q+1:=by
      cases n with
      | zero=>have Y:=aM.out;rw[am.out]at Y;exact absurd (show zG (pPL 0 [] r)from Y) (by rw[pPL];exact id)
      | succ q=>exact⟨q,rfl⟩
     obtain⟨acc,P⟩:∃acc:List Pa,acc=[]:=⟨_,rfl⟩
     have bi:acc.length<=1000000:=by rw[P];simp
     have bj:acc.length<=all.length-r.length:=by rw[P];simp
     replace g:=hid (show OutK kP (w.heap.size+2) wr (.slice none 0 0) acc by rw[P];exact g.out);have al:=hid (show T=pPL (q+1) acc r by rw[am.out,P];rfl);have ai:=hid aQ;have af:=hid K;clear ho K P aQ
     go_wp2_with (first
      | (go_at_call 53;(with_reducible refine(zt a.out.st false rfl).mono ?_);rintro e w2 ⟨rfl,rfl⟩)
      | (go_at_call 54;(with_reducible refine(vP a.out.st).mono ?_);rintro e aI ⟨bd,rfl,c,i⟩
         obtain⟨p,rfl,O⟩:=ty_got (r:=r) i;have D:=hid O;replace g:=hid (g.out.keep (zK.did c I7));replace a:=hid (show qe b V all w (pTy r).un aI _ _ _ _ from a.out.step c);obtain⟨⟨aD,aE,aF,aG⟩,aH⟩:=a.out.f
         clear c i O))
     go_region_law (first
      | (refine qo rfl (.tmp 31) (.tmp 36) _ rfl (w.heap.size+2) 100 aV _ 2 24 Tryz.underlying90 A.out.1 A.out.2.1 A.out.2.2.1 A.out.2.2.2 rfl I7 (.slice none 0 0) acc.length _ rfl (by exact E.out.1) ⟨z.heap.size,0,none⟩ 1 1 [.string o,.int .i64 p] rfl rfl (by exact E.out.2.1) Ig If I7 (by exact E.out.2.2) I7 ?_
         intro be aJ F Q R;obtain⟨aW,a1,rfl⟩:=zU F;have l:=hid (fn_next (q:=⟨o,p⟩) k.out M.out Q R F);have aA:aJ.cell? ⟨w.heap.size+1,2,none⟩=some (.slice none 0 0):=l.out.1.f.1.2.2.1;have a4:=l.out.1.f.2
         clear F Q R)
      | (go_simp;go_at_call 55;(refine(xo (a.out.drew).st 1 I8).mono ?_);rintro e z ⟨o,rfl,c,i⟩
         have ak:=hid i;have M:=hid (g.out.keep ((zK.of_below Zb.drew).trans (zK.did c I7)));have k:=hid (show qe b V all w (qg r).un z _ _ _ _ from(parOne_un r).symm ▸ a.out.drew.step c);have aA:z.cell? ⟨w.heap.size+1,2,none⟩=some (.slice none 0 0):=k.out.f.1.2.2.1;have a3:=k.out.f.2;have a9:(z.alloc (.cells #[.string o,.int .i64 p] 100)).cell? ⟨w.heap.size+1,2,none⟩=some (.slice none 0 0):=(k.out.alloc _).f.1.2.2.1;have E:=hid (M.out.pre [.string o,.int .i64 p] (by have:=k.out.size;omega))
         clear c i))
     all_goals
      go_wp2;have N:=hid (fn_rel (n:=q+1) I7 al.out l.out.2.1 l.out.2.2 (parOne_got D.out ak.out) ai.out aC I7 I7);go_roundw
      case rel=>exact .inr ⟨rfl,N.out.1⟩
      case measure=>
       have Y:=N.out.2;have a5:=af.out;simp[firstN];omega
  .obtain⟨a8,S⟩:∃v:Bool,zS [44] y=v:=⟨_,rfl⟩
   cases a8 with
   | true=>
     obtain⟨ae,rfl,ad⟩:=vw S;obtain⟨K,bm,a7,ay,ba⟩:=xZ B.did
     have j:T=pPL m acc ae.tail:=by
      rw[C];show uJ m acc ae=_;unfold uJ;rw[if_pos ad]
     obtain⟨q,rfl⟩:∃q,m=q+1:=by
      cases m with
      | zero=>have:=aM.out;rw[j,pPL]at this;exact absurd this id
      | succ q=>exact⟨q,rfl⟩
     have a6:=ax rfl;rw[K]at a6;have bb:=jN ay;have af:=hid K;have ao:=hid (show zS (⟨#[44]⟩:ByteArray).data.toList (PR.ok () ae)=true from ad);have az:=ay.sign ad;obtain⟨r,aB⟩:∃bc,bc=ae.tail:=⟨_,rfl⟩
     rw[<-aB]at j bb az;have aC:r.length<=all.length:=I7
     have aY:=hid aB;have al:=hid j;have ai:=hid az;have g:=hid J;replace a:=hid B;obtain⟨G,I,rfl⟩:=J.form;clear B J C j K S ad ay az aB ax
     go_wp2_with (first
      | (go_at_call 56;(with_reducible refine(zi a.out.st _ ao.out).mono ?_);rintro e w2 ⟨rfl,c⟩
         have av:qd b V all wr (.ok () r) w2:=by rw[aY.out];exact c
         replace g:=hid (g.out.keep (zK.did av I7));replace a:=hid (a.out.step av)
         clear c av)
      | (go_at_call 53;(with_reducible refine(zt a.out.st false rfl).mono ?_);rintro e w2 ⟨rfl,rfl⟩)
      | (go_at_call 54;(with_reducible refine(vP a.out.st).mono ?_);rintro e aI ⟨bd,rfl,c,i⟩
         obtain⟨p,rfl,O⟩:=ty_got (r:=r) i;have D:=hid O;replace g:=hid (g.out.keep (zK.did c I7));replace a:=hid (show qe b V all w (pTy r).un aI _ _ _ _ from a.out.step c);obtain⟨⟨aD,aE,aF,aG⟩,aH⟩:=a.out.f
         clear c i O))
     go_region_law (first
      | (refine qo rfl (.tmp 31) (.tmp 36) _ rfl (w.heap.size+2) 100 aV _ 2 24 Tryz.underlying90 A.out.1 A.out.2.1 A.out.2.2.1 A.out.2.2.2 rfl I7 (.slice G acc.length I) acc.length _ rfl (by exact E.out.1) ⟨z.heap.size,0,none⟩ 1 1 [.string o,.int .i64 p] rfl rfl (by exact E.out.2.1) Ig If I7 (by exact E.out.2.2) I7 ?_
         intro be aJ F Q R;obtain⟨aW,a1,rfl⟩:=zU F;have l:=hid (fn_next (q:=⟨o,p⟩) k.out M.out Q R F);have aA:aJ.cell? ⟨w.heap.size+1,2,none⟩=some (.slice G acc.length I):=l.out.1.f.1.2.2.1;have a4:=l.out.1.f.2
         clear F Q R)
      | (go_simp;go_at_call 55;(refine(xo (a.out.drew).st 1 I8).mono ?_);rintro e z ⟨o,rfl,c,i⟩
         have ak:=hid i;have M:=hid (g.out.keep ((zK.of_below Zb.drew).trans (zK.did c I7)));have k:=hid (show qe b V all w (qg r).un z _ _ _ _ from(parOne_un r).symm ▸ a.out.drew.step c);have aA:z.cell? ⟨w.heap.size+1,2,none⟩=some (.slice G acc.length I):=k.out.f.1.2.2.1;have a3:=k.out.f.2;have a9:(z.alloc (.cells #[.string o,.int .i64 p] 100)).cell? ⟨w.heap.size+1,2,none⟩=some (.slice G acc.length I):=(k.out.alloc _).f.1.2.2.1;have E:=hid (M.out.pre [.string o,.int .i64 p] (by have:=k.out.size;omega))
         clear c i))
     all_goals
      go_wp2;have N:=hid (fn_rel (n:=n) I7 al.out l.out.2.1 l.out.2.2 (parOne_got D.out ak.out) ai.out aC I7 I7);go_roundw
      case rel=>exact .inr ⟨rfl,N.out.1⟩
      case measure=>
       have Y:=N.out.2;have a5:=af.out;simp[firstN];omega
   | false=>
     have ao:=hid (show zS (⟨#[44]⟩:ByteArray).data.toList y=false from S);have j:=C.trans (par_end (m:=m) (acc:=acc) S);have an:=hid (show T.un=y.bind fun _ r=>zN [41] r by rw[j,par_un]);have D:=hid (show qy T fun ps=>ps=acc by rw[j];exact par_fin rfl);have g:=hid J;replace a:=hid B;obtain⟨G,I,rfl⟩:=J.form;clear B J C j S ax
     go_wp2_with (first
      | (go_at_call 56;(with_reducible refine(zD a.out.st _ ao.out).mono ?_);rintro e w2 ⟨rfl,c⟩
         replace g:=hid (g.out.keep (zK.did c I7));replace a:=hid (a.out.step c)
         clear c)
      | (go_at_call 58;(with_reducible refine(zY a.out.st ⟨#[41]⟩).mono ?_);rintro e aK ⟨rfl,c⟩
         replace g:=hid (g.out.keep (zK.did c I7));replace a:=hid (show qe b V all w T.un aK _ _ _ _ from an.out ▸ a.out.step c)
         clear c)
      | (go_at_call 82;(with_reducible refine(aL.out.call a.out.st H.out).mono ?_);rintro e bh ⟨bf,rfl,c,i⟩
         obtain⟨L,U,W,rfl⟩:=kl i H.out;have aj:=hid i;have ag:=a;have ah:=hid c;replace a:=hid (a.out.step c);obtain⟨⟨c0,c1,c2,c3⟩,a2⟩:=a.out.own;obtain⟨⟨aD,aE,aF,aG⟩,aH⟩:=a.out.f
         clear c i))
     obtain⟨ap,f1,aq,f3⟩:=(a.out.set3 (.slice L U W)).read;refine bodyPost_ret (v:=.agg #[.string s,.int .i64 t,.slice G acc.length I,.slice L U W]) (by simp[results,Tryz.results59,go_sem,ap,f1,aq,f3]) rfl ?_;exact fn_done ag.out g.out aw D.out ah.out aj.out H.out
theorem pfn_any{b:Nat}{V:Value}{all:List Tok}{n:Nat}{x:PR Unit}{w:World}{t:Int}{s:ByteArray}(a:jI b V all x w)(c:zG (x.bind fun _ r=>pFn n t s r)):
 Calls Tryz.prog 59 #[.pointer (some ⟨b,0,none⟩),.int .i64 t,.string s] w (qM b V all w (x.bind fun _ r=>pFn n t s r) (FrF w.heap.size)):=by
 cases h41:zS [41] (x.bind fun _ r=>zN [40] r)with
 | true=>
   obtain⟨r,e,d⟩:=vw h41;exact fn_none a e d c
 | false=>exact fn_some a h41 c
end Go.Proofs.YthcmenajdcbnnaaGreatDoor
