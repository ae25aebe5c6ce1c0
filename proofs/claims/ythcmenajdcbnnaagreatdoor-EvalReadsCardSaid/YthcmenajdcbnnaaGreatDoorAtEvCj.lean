import Derived.Test.YthcmenajdcbnnaaGreatDoorAtEvCf
set_option linter.unusedSimpArgs false
set_option linter.unusedVariables false
set_option maxRecDepth 100000
set_option maxHeartbeats 99000000
/- What the developers make of a function. -/
namespace Go.Proofs.YthcmenajdcbnnaaGreatDoor
open Lib (hid)
open Go.RowKit Go.Maps
def CodeN(B L:Nat)(w:World)(v:Value)(l:List Ins):Prop:=
 ∃(e:Option Addr) (f:Nat),v=.slice e l.length f/\l.length<=281474976710656/\(0<l.length->∃g,e=some ⟨g,0,none⟩/\L<=g/\g<w.heap.size/\
   ∀i x,l[i]? =some x->∃a b c d,InsP B w x a b c d/\w.cell? ⟨g,i*4,none⟩=some a/\w.cell? ⟨g,i*4+1,none⟩=some b/\w.cell? ⟨g,i*4+2,none⟩=some c/\w.cell? ⟨g,i*4+3,none⟩=some d)
theorem CodeN.keep{B L:Nat}{w w':World}{v:Value}{l:List Ins}(p:CodeN B L w v l)(z:Below B w w')(D:w.heap.size<=w'.heap.size)(A:∀k,L<=k->k<w.heap.size->w'.heap[k]? =w.heap[k]?):CodeN B L w' v l:=by
 obtain⟨m,n,r,s,t⟩:=p;refine⟨m,n,r,s,fun C=>?_⟩;obtain⟨g,u,f,j,y⟩:=t C;refine⟨g,u,f,Nat.lt_of_lt_of_le j D,fun i x E=>?_⟩;obtain⟨a,b,c,d,q,F,G,H,I⟩:=y i x E;have e:∀o,w'.cell? ⟨g,o,none⟩=w.cell? ⟨g,o,none⟩:=fun o=>World.cell?_of_block (A g f j)
 exact⟨a,b,c,d,q.below z Zr,(e _).trans F,(e _).trans G,(e _).trans H,(e _).trans I⟩
theorem CodeN.mono{B L a:Nat}{w:World}{v:Value}{l:List Ins}(d:CodeN B L w v l)(o:a<=L):CodeN B a w v l:=by
 obtain⟨b,c,e,f,i⟩:=d;refine⟨b,c,e,f,fun p=>?_⟩;obtain⟨g,j,k,m,n⟩:=i p;exact⟨g,j,Nat.le_trans o k,m,n⟩
theorem WrS.code{L B b:Nat}{w:World}{vc u:Value}{s:WSt}{j:List Q4}(d:WrS L B b w vc u s j)(r:s.C.length<=281474976710656):CodeN B L w vc s.C:=by
 obtain⟨n,c,l⟩:=zU d.row;refine⟨n,c,l,r,fun t=>?_⟩;obtain⟨g,v,a,o,p,_,e,_⟩:=yS d.row t;rw[l]at a;injection a with a _ _;refine⟨g,a,o,p,fun i x m=>?_⟩;obtain⟨q,k⟩:∃q,j[i]? =some q:=⟨_,List.getElem?_eq_getElem (by rw[d.ql];exact(List.getElem?_eq_some_iff.1 m).1)⟩
 have f:=flat4 j i q k;exact⟨q.1,q.2.1,q.2.2.1,q.2.2.2,d.qi i x q m k,e _ _ (f 0 _ rfl),e _ _ (f 1 _ rfl),e _ _ (f 2 _ rfl),e _ _ (f 3 _ rfl)⟩
abbrev s00:WSt:=⟨[],0,0,0,[]⟩
theorem wr_start(B:Nat)(w:World)(L:Nat)(a:B<=L)(b:L<=w.heap.size):WrS L B w.heap.size (w.alloc (wrO (.slice none 0 0) (.slice none 0 0) s00)) (.slice none 0 0) (.slice none 0 0) s00 []:=
 ⟨a,b,heap_alloc_new w _,World.ownsRow_nil _ _ _ _,rfl,fun i x q c=>Q7,World.ownsRow_nil _ _ _ _⟩
theorem wfun_any(B:Nat)(f:Fu)(D N:Value)(w:World)(W:B<=w.heap.size)(x:SlP B w D f.params)(s:SlS B w N f.body)(I:stsOK f.body 100=true)(am:lenTs f.body 0<=1000000000):
 Calls Tryz.prog 67 #[.agg #[.string f.name,.int .i64 f.type,D,N]] w fun e w'=>∃vc,e=.returned (.agg #[D,vc])/\Below w.heap.size w w'/\CodeN B w.heap.size w' vc (genF f):=by
 obtain⟨b,c,rfl,_⟩:=x.form;obtain⟨d,g,rfl,_⟩:=s.form;have ad:=hid x;have O:=hid s;have P:=hid I;clear x s I;have q:Below w.heap.size w ((w.alloc (fuO f.name f.type (.slice b f.params.length c) (.slice d f.body.length g))).alloc (.cells #[.slice none 0 0,.slice none 0 0] 120)):=(Zb.alloc Zr _).alloc Ia _;have A:((w.alloc (fuO f.name f.type (.slice b f.params.length c) (.slice d f.body.length g))).alloc (.cells #[.slice none 0 0,.slice none 0 0] 120)).heap.size=w.heap.size+1+1:=Ia
 have J:((w.alloc (fuO f.name f.type (.slice b f.params.length c) (.slice d f.body.length g))).alloc (.cells #[.slice none 0 0,.slice none 0 0] 120)).heap[w.heap.size]? =some (fuO f.name f.type (.slice b f.params.length c) (.slice d f.body.length g)):=(Below.heap_alloc _ _ _ Ia).trans (heap_alloc_new w _);have K:((w.alloc (fuO f.name f.type (.slice b f.params.length c) (.slice d f.body.length g))).alloc (.cells #[.slice none 0 0,.slice none 0 0] 120)).heap[w.heap.size+1]? =some (.cells #[.slice none 0 0,.slice none 0 0] 120):=by simpa using heap_alloc_new (w.alloc (fuO f.name f.type (.slice b f.params.length c) (.slice d f.body.length g))) (.cells #[.slice none 0 0,.slice none 0 0] 120)
 go_enter Tryz.func67,Tryz.ntmps67;go_upto_region 2 with(fail);generalize(w.alloc (.cells #[.string f.name,.int .i64 f.type,.slice b f.params.length c,.slice d f.body.length g] 93)).alloc (.cells #[.slice none 0 0,.slice none 0 0] 120)=W1 at *;have r:Below w.heap.size W1 (W1.alloc (wrO (.slice none 0 0) (.slice none 0 0) s00)):=Zb.alloc I7 _;have n:=wr_start B W1 (w.heap.size+1+1) I7 I7;rw[A]at n;have z:=(Below.heap_alloc W1 (wrO (.slice none 0 0) (.slice none 0 0) s00) w.heap.size I7).trans J;have L:=(Below.heap_alloc W1 (wrO (.slice none 0 0) (.slice none 0 0) s00) (w.heap.size+1) I7).trans K;have ar:(W1.alloc (wrO (.slice none 0 0) (.slice none 0 0) s00)).heap.size=w.heap.size+1+1+1:=by rw[zA,A]
 generalize(W1.alloc (wrO (.slice none 0 0) (.slice none 0 0) s00))=W2 at *;obtain⟨⟨T,f1,U,f3⟩,V⟩:=zR z;have aq:w.heap.size<W2.heap.size:=I7
 have R:=hid (q.trans r);have ae:=hid n;have F:=hid (And.intro z L);have S:=hid (wstmts_all (w.heap.size+1+1) B (w.heap.size+1+1) 100 f.body W2 (.slice d f.body.length g) _ _ s00 [] n (O.out.below ((q.trans r).mono W) Zr) P.out ⟨Nat.le_refl _,by show 0+100<=1000;omega,Uv,Uv⟩);clear q A J K r n z L
 go_upto_region 3 with(first
  | (go_at_call 91;(refine S.out.mono ?_);rintro e l M
     obtain⟨ax,aw,au,rfl,i⟩:=M.cum;have E:=hid i;obtain⟨j,cc,rfl⟩:=zU i.wr.row;obtain⟨⟨af,ag,ah,ai,aj⟩,ak⟩:=zQ i.wr.box;have ap:=i.wr.lt
     have u:∀k,k<w.heap.size+1+1->¬WT (w.heap.size+1+1) (.slice none 0 0) (.slice none 0 0) k:=fun k H a=>by
      rcases a with a|a|a
      .omega
      .cases a
      .cases a
     have y:=i.off.at (u w.heap.size I7) F.out.1;have m:=i.off.at (u (w.heap.size+1) I7) F.out.2;obtain⟨⟨ay,az,aA,aB⟩,aC⟩:=zR y;obtain⟨⟨u0,u1⟩,av⟩:=zO m;have an:=zB y;have ao:=zB m;have Q:=hid m
     clear M i u y m))
 clear T f1 U f3 V;go_wp2_with (fail);obtain⟨aa,ab⟩:=xF Q.out (.slice b f.params.length c) (.slice j (qH f.body 0 0 0 0).length cc);refine bodyPost_ret (v:=.agg #[.slice b f.params.length c,.slice j (qH f.body 0 0 0 0).length cc]) (by simp[results,Tryz.results67,go_sem,aa,ab]) rfl ?_;have o:(jg s00 (qH f.body s00.C.length (dS s00) s00.lst 0) (xA f.body s00.C.length (dS s00))).C=genF f:=by simp[genF]
 have t:=E.out.wr.code (by rw[o];unfold genF;rw[jL];omega);rw[o]at t
 have X:=E.out.off.below (B:=w.heap.size) I7 fun k H a=>by
  rcases a with a|a|a
  .omega
  .cases a
  .cases a
 have G:Below (w.heap.size+1) l ((l.setCell ⟨w.heap.size+1,0,none⟩ (.slice b f.params.length c)).setCell ⟨w.heap.size+1,1,none⟩ (.slice j (qH f.body 0 0 0 0).length cc)):=((Below.refl _ l).setCell (p:=⟨w.heap.size+1,0,none⟩) Zr _).setCell (p:=⟨w.heap.size+1,1,none⟩) Zr _;have Y:((l.setCell ⟨w.heap.size+1,0,none⟩ (.slice b f.params.length c)).setCell ⟨w.heap.size+1,1,none⟩ (.slice j (qH f.body 0 0 0 0).length cc)).heap.size=l.heap.size:=Id
 refine⟨_,rfl,(R.out.trans X).trans (G.mono I7),?_⟩;have Z:(Value.slice j ((jg s00 (qH f.body s00.C.length (dS s00) s00.lst 0) (xA f.body s00.C.length (dS s00))).C).length cc)=.slice j (qH f.body 0 0 0 0).length cc:=by rw[o];rfl
 rw[Z]at t;exact(CodeN.keep (w:=l) t (G.mono I7) (Nat.le_of_eq Y.symm) fun k H al=>(Below.heap_setCell _ _ _ k Qg).trans (Below.heap_setCell _ _ _ k Qg)).mono I7
def XD(d:Nat)(l:Lb):Prop:=l=.frm d\/l=.outr d\/∃i,l=.vmap d i\/l=.cel d i
theorem xd_no{d:Nat}{l:Lb}(b:∀d,l≠.frm d)(c:∀d,l≠.outr d)(e:∀d i,l≠.vmap d i)(f:∀d i,l≠.cel d i):¬XD d l:=fun a=>by
 rcases a with a|a|⟨i,a|a⟩
 .exact b _ a
 .exact c _ a
 .exact e _ _ a
 .exact f _ _ a
theorem xd_other{d e:Nat}(a:e<d):¬XD d (.frm e)/\¬XD d (.outr e)/\∀i,¬XD d (.vmap e i)/\¬XD d (.cel e i):=by
 refine⟨fun b=>?_,fun b=>?_,fun i=>⟨fun b=>?_,fun b=>?_⟩⟩ <;> rcases b with a|a|⟨j,a|a⟩ <;> injection a <;> omega
theorem xd_gl(d:Nat):¬XD d .gl/\¬XD d .mach/\¬XD d .funs/\¬XD d .arrs/\¬XD d .code/\¬XD d .vals/\¬XD d .outs/\∀k,¬XD d (.arr k):=by
 refine⟨?_,?_,?_,?_,?_,?_,?_,fun k=>?_⟩ <;> exact xd_no (fun _ e=>Qa) (fun _ e=>Qa) (fun _ _ e=>Qa) (fun _ _ e=>Qa)
section
variable {G:Gm} {τ τ':Nat->Lb} {w w':World} {m:Vm} {vi vv pa vo:Value}
theorem MwI.top(b:MwI G τ w m vi vv pa vo){a:Nat}(q:pa=.pointer (some ⟨a,0,none⟩)){f:Fr}{r:List Fr}(c:OffX (fun k=>XD r.length (τ k)) w w')(d:Ext τ τ' w){g vc j:Value}{mp:Nat}{locs ms:List Nat}
 (t:Frs G.B τ w g r) (p:FrI G.B τ' w' r.length a g f vc mp j locs ms):MwI G τ' w' ⟨m.s,m.v,f::r⟩ vi vv pa vo/\Below G.B w w':=by
 obtain⟨l,u,x,y,n,z,A,C⟩:=xd_gl r.length;have i:=b.below (X:=XD r.length) c l;refine b.step (X:=XD r.length) (m':=⟨m.s,m.v,f::r⟩) c d l ⟨x,n⟩ (jo c d b.lab u b.box).2 (b.inp.below i Zr) (b.val.keep (X:=XD r.length) c d z) (b.out.keep (X:=XD r.length) c d A) ?_ (b.arr.keep (X:=XD r.length) c d ⟨y,C⟩) b.nv b.ni b.no b.lim;exact⟨a,g,vc,mp,j,locs,ms,q,p,Frs.keep (X:=XD r.length) c d i t ⟨n,fun e o=>xd_other o⟩ Zr⟩
end
theorem env_more{vs:Vals}{locs:List Nat}(b:Nat)(s:ByteArray)(h:vs.length<=locs.length):envF vs (locs++[b]) s=envF vs locs s:=by
 unfold envF;cases he:kB vs s with
 | none=>rfl
 | some k=>
   dsimp only;rw[List.getElem?_append_left (by have:=xb he;omega)]
theorem pair_le{o:List Nat}{n:Nat}(a:(o++[n]).Pairwise (·<=·)):∀k∈o,k<=n:=fun k b=>(List.pairwise_append.1 a).2.2 k b n (List.mem_singleton.2 rfl)
theorem pair_up{o:List Nat}{n b:Nat}(c:(o++[n]).Pairwise (·<=·))(e:n<=b):(o++[b]).Pairwise (·<=·):=by
 have a:=List.pairwise_append.1 c;refine List.pairwise_append.2 ⟨a.1,List.pairwise_singleton _ _,fun k d x f=>?_⟩;rw[List.mem_singleton.1 f];exact Nat.le_trans (a.2.2 k d n (List.mem_singleton.2 rfl)) e
section
variable {B:Nat} {τ:Nat->Lb} {w w':World} {d a:Nat} {pa:Value} {c:Fr} {vc:Value} {mp:Nat} {vo:Value} {locs ms:List Nat}
theorem FrI.place(b:FrI B τ w d a pa c vc mp vo locs ms){p:Nat}(o:Below B w (w.setCell ⟨a,1,none⟩ (.int .i64 (p:Int)))):FrI B τ (w.setCell ⟨a,1,none⟩ (.int .i64 (p:Int))) d a pa { c with pl:=p } vc mp vo locs ms:=by
 have f:OffX (fun k=>(fun l=>l=Lb.frm d) (τ k)) w (w.setCell ⟨a,1,none⟩ (.int .i64 (p:Int))):=OffX.set (X:=fun k=>(fun l=>l=Lb.frm d) (τ k)) w b.lab 1 _;have g:=Ext.refl τ w;refine⟨Lib.heap_setCell_same b.box _,b.lab,b.code.keep (X:=fun l=>l=Lb.frm d) f g o Ib,b.ll,fun i l x q s=>?_,b.map.keep (X:=fun l=>l=Lb.frm d) f g Ib,b.ml,zm b.row fun k j=>f.block k (qP b.row k j).1 (by rw[b.rol k j];intro e;cases e),b.rol,fun i m k r j=>(b.out i m k r j).keep (X:=fun l=>l=Lb.frm d) f g Ib,b.ord⟩;obtain⟨t,u,v⟩:=b.cell i l x q s;have n:=jo (X:=fun l=>l=Lb.frm d) f g t Ib u;exact⟨n.1,n.2,v⟩
theorem FrI.decl(f:FrI B τ w d a pa c vc mp vo locs ms)(F:Below B w w')(M:OffX (fun k=>k=mp) w w'){name:ByteArray}{x:Int}(J:MapV w' mp (c.vs.length+1) (.pointer none) (upV (envF c.vs locs) name (.pointer (some ⟨w.heap.size,0,none⟩))))(L:w'.heap[w.heap.size]? =some (.cells #[.int .i64 x] 3))(N:i64R x):
 FrI B (lbl τ w.heap.size (.cel d c.vs.length)) w' d a pa { c with vs:=c.vs++[(name,x)] } vc mp vo (locs++[w.heap.size]) ms:=by
 have r:OffX (fun k=>(fun l=>l=Lb.vmap d c.o.length) (τ k)) w w':=M.mono fun k _ g=>by
  have g:k=mp:=g;rw[g];exact f.map.1
 have p:=Ext.lbl τ w (.cel d c.vs.length) (Nat.le_refl w.heap.size);have C:=jo (X:=fun l=>l=Lb.vmap d c.o.length) r p f.lab Ib f.box;have K:=f.map.2.lt;refine⟨C.2,C.1,f.code.keep (X:=fun l=>l=Lb.vmap d c.o.length) r p F Ib,by simp[f.ll],fun i l y n j=>?_,⟨(p mp K).trans f.map.1,?_⟩,f.ml,zm f.row fun k g=>r.block k (qP f.row k g).1 (by rw[f.rol k g];intro e;cases e),fun b A=>(p b (qP f.row b A).1).trans (f.rol b A),fun i m k I g=>?_,?_⟩
 .rcases Nat.lt_or_ge i locs.length with q|q
  .rw[List.getElem?_append_left q]at n
   have j:(c.vs++[(name,x)])[i]? =some y:=j;rw[List.getElem?_append_left (by rw[<-f.ll];exact q)]at j;obtain⟨u,v,t⟩:=f.cell i l y n j;have D:=jo (X:=fun l=>l=Lb.vmap d c.o.length) r p u Ib v;exact⟨D.1,D.2,t⟩
  .have j:(c.vs++[(name,x)])[i]? =some y:=j
   rw[List.getElem?_append_right q]at n;rw[List.getElem?_append_right (by rw[<-f.ll];exact q)]at j
   have z:i-locs.length=0:=by
    have:=(List.getElem?_eq_some_iff.1 n).1;simp at this;omega
   rw[z]at n;rw[<-f.ll,z]at j;simp at n j;subst n j;have G:i=c.vs.length:=by have:=f.ll;omega
   rw[G];exact⟨uD _ _ _,L,N⟩
 .show MapV w' mp (c.vs++[(name,x)]).length (.pointer none) (envF (c.vs++[(name,x)]) (locs++[w.heap.size]))
  rw[List.length_append];exact J.congr fun s=>env_snoc _ _ f.ll (name,x) _ s
 .have H:=pair_le f.ord k (List.mem_of_getElem? g)
  obtain⟨u,v⟩:=f.out i m k I g;have q:i<c.o.length:=by have:=(List.getElem?_eq_some_iff.1 g).1;exact this
  have t:=VMap.keep (X:=fun l=>l=Lb.vmap d c.o.length) (w':=w') ⟨u,v⟩ r p (by intro e;injection e with _ e;omega);have E:(c.vs++[(name,x)]).take k=c.vs.take k:=List.take_append_of_le_length H;show VMap _ w' d i m ((c.vs++[(name,x)]).take k) (locs++[w.heap.size]);rw[E];exact⟨t.1,t.2.congr fun s=>env_more _ s (by rw[List.length_take,f.ll];omega)⟩
 .exact pair_up f.ord Ia
theorem evAt_nms:∀{vs a:Vals} (s:ByteArray),yR vs=yR a->kB vs s=kB a s
 | [],[],_,_=>rfl
 | [],_::_,_,h=>IC
 | _::_,[],_,h=>IC
 | x::r,y::q,s,h=>by
   simp only[yR,List.map_cons,List.cons.injEq]at h;rw[kB,kB,evAt_nms s h.2,h.1]
theorem env_nms{vs a:Vals}(locs:List Nat)(s:ByteArray)(b:yR vs=yR a):envF vs locs s=envF a locs s:=by
 unfold envF;rw[evAt_nms s b]
theorem nms_take{vs a:Vals}(k:Nat)(b:yR vs=yR a):yR (vs.take k)=yR (a.take k):=by
 unfold yR at *;rw[List.map_take,List.map_take,b]
theorem FrI.setv(f:FrI B τ w d a pa c vc mp vo locs ms){name:ByteArray}{j b:Nat}{x:Int}(C:kB c.vs name=some j)(A:locs[j]? =some b)(J:Below B w (w.setCell ⟨b,0,none⟩ (.int .i64 x)))(M:i64R x):
 FrI B τ (w.setCell ⟨b,0,none⟩ (.int .i64 x)) d a pa { c with vs:=y6 c.vs name x } vc mp vo locs ms:=by
 have D:=xb C;obtain⟨y,N⟩:∃y,c.vs[j]? =some y:=⟨_,List.getElem?_eq_getElem D⟩
 obtain⟨H,O,_⟩:=f.cell j b y A N;have n:OffX (fun k=>(fun l=>l=Lb.cel d j) (τ k)) w (w.setCell ⟨b,0,none⟩ (.int .i64 x)):=OffX.set (X:=fun k=>(fun l=>l=Lb.cel d j) (τ k)) w H 0 _;have p:=Ext.refl τ w;have E:=jo (X:=fun l=>l=Lb.cel d j) n p f.lab Ib f.box;have t:=evSet_nm c.vs name x;have L:y6 c.vs name x=c.vs.set j (name,x):=by unfold y6;rw[C]
 have v:(y6 c.vs name x).length=c.vs.length:=uF t;have G:=f.map.keep (X:=fun l=>l=Lb.cel d j) n p Ib;refine⟨E.2,E.1,f.code.keep (X:=fun l=>l=Lb.cel d j) n p J Ib,f.ll.trans v.symm,fun i l z q g=>?_,⟨G.1,?_⟩,f.ml,zm f.row fun k r=>n.block k (qP f.row k r).1 (by rw[f.rol k r];intro e;cases e),f.rol,fun i m k K r=>?_,?_⟩
 .have g:(y6 c.vs name x)[i]? =some z:=g
  rw[L,List.getElem?_set]at g;by_cases u:j=i
  .subst u
   rw[if_pos rfl,if_pos D]at g;injection g with g;subst g;rw[A]at q;injection q with q;subst q;exact⟨H,Lib.heap_setCell_same O _,M⟩
  .rw[if_neg u]at g
   obtain⟨P,Q,R⟩:=f.cell i l z q g;have F:=jo (X:=fun l=>l=Lb.cel d j) n p P (by intro e;injection e with _ e;exact u e.symm) Q;exact⟨F.1,F.2,R⟩
 .show MapV _ mp (y6 c.vs name x).length _ (envF (y6 c.vs name x) locs)
  rw[v];exact G.2.congr fun s=>env_nms locs s t
 .have I:=(f.out i m k K r).keep (X:=fun l=>l=Lb.cel d j) n p Ib
  refine⟨I.1,?_⟩;show MapV _ m ((y6 c.vs name x).take k).length _ (envF ((y6 c.vs name x).take k) locs);rw[uF (nms_take k t)];exact I.2.congr fun s=>env_nms locs s (nms_take k t)
 .show(c.o++[(y6 c.vs name x).length]).Pairwise (·<=·)
  rw[v];exact f.ord
def XE(d:Nat)(l:Lb):Prop:=l=.frm d\/l=.outr d
theorem xe_no{d:Nat}:¬XE d .code/\(∀i,¬XE d (.vmap d i))/\(∀i,¬XE d (.cel d i)):=by
 refine⟨?_,fun i=>?_,fun i=>?_⟩ <;>(rintro(e|e) <;> cases e)
theorem FrI.enter{τ':Nat->Lb}(f:FrI B τ w d a pa c vc mp vo locs ms)(t:Below B w w')(p:OffX (fun k=>XE d (τ k)) w w')(j:Ext τ τ' w){mp':Nat}{vo':Value}(u:w'.heap[a]? =some (caO vc c.pl mp' vo' pa))(D:w'.ownsRow B 163 1 vo' (c.o.length+1) ((ms++[mp]).map fun m=>.map (some m)))(C:∀b,vo'.ownBlock=some b->τ' b=.outr d)
 (A:τ' mp'=.vmap d (c.o.length+1)) (z:MapV w' mp' c.vs.length (.pointer none) (envF c.vs locs)):FrI B τ' w' d a pa { c with o:=c.o++[c.vs.length] } vc mp' vo' locs (ms++[mp]):=by
 obtain⟨J,r,K⟩:=xe_no (d:=d);refine⟨u,(j a (zB f.box)).trans f.lab,f.code.keep (X:=XE d) p j t J,f.ll,fun i l L y F=>?_,⟨?_,z⟩,by simp[f.ml],?_,C,fun i m k g e=>?_,?_⟩
 .obtain⟨G,H,I⟩:=f.cell i l L y F
  have q:=jo (X:=XE d) p j G (K i) H;exact⟨q.1,q.2,I⟩
 .show τ' mp'=.vmap d (c.o++[c.vs.length]).length
  rw[List.length_append];exact A
 .show w'.ownsRow B _ 1 vo' (c.o++[c.vs.length]).length _
  rw[List.length_append];exact D
 .have e:(c.o++[c.vs.length])[i]? =some k:=e
  rcases Nat.lt_or_ge i c.o.length with n|n
  .rw[List.getElem?_append_left n]at e
   rw[List.getElem?_append_left (by rw[f.ml];exact n)]at g;exact(f.out i m k g e).keep (X:=XE d) p j (r i)
  .rw[List.getElem?_append_right n]at e
   rw[List.getElem?_append_right (by rw[f.ml];exact n),f.ml]at g
   have s:i-c.o.length=0:=by
    have:=(List.getElem?_eq_some_iff.1 e).1;simp at this;omega
   rw[s]at e g;simp at e g;subst e g;have v:i=c.o.length:=I7
   subst v;show VMap τ' w' d c.o.length mp (c.vs.take c.vs.length) locs;rw[List.take_length];exact f.map.keep (X:=XE d) p j (r _)
 .show((c.o++[c.vs.length])++[c.vs.length]).Pairwise (·<=·)
  refine List.pairwise_append.2 ⟨f.ord,List.pairwise_singleton _ _,fun k e x E=>?_⟩;rw[List.mem_singleton.1 E];rcases List.mem_append.1 e with e|e
  .exact pair_le f.ord k e
  .rw[List.mem_singleton.1 e];exact Nat.le_refl _
theorem FrI.leave(e:FrI B τ w d a pa c vc mp vo locs ms)(J:Below B w w')(p:OffX (fun k=>XE d (τ k)) w w'){q:List Nat}{n:Nat}(g:c.o=q++[n]){qm:List Nat}{u:Nat}(x:ms=qm++[u]){vo':Value}(K:w'.heap[a]? =some (caO vc c.pl u vo' pa))(S:w'.ownsRow B 163 1 vo' q.length (qm.map fun m=>.map (some m)))(R:∀b,vo'.ownBlock=some b->τ b=.outr d):
 FrI B τ w' d a pa { c with vs:=c.vs.take n,o:=q } vc u vo' (locs.take n) qm:=by
 obtain⟨V,G,W⟩:=xe_no (d:=d);have r:=Ext.refl τ w;have Q:n<=c.vs.length:=pair_le e.ord n (by rw[g];exact List.mem_append_right _ (List.mem_singleton.2 rfl));have A:(q++[n]).Pairwise (·<=·):=g ▸ (List.pairwise_append.1 e.ord).1;have C:qm.length=q.length:=by have:=e.ml;rw[g,x]at this;simp at this;omega
 have D:(c.vs.take n).length=n:=IH
 have O:=e.out q.length u n (by rw[x,List.getElem?_append_right I7,C,Nat.sub_self];rfl) (by rw[g,List.getElem?_append_right Zr,Nat.sub_self];rfl);have F:=O.keep (X:=XE d) p r (G _);refine⟨K,e.lab,e.code.keep (X:=XE d) p r J V,by show(locs.take n).length=(c.vs.take n).length;rw[D,List.length_take,e.ll];omega,fun i l y t j=>?_,⟨F.1,?_⟩,C,S,R,fun i m k P f=>?_,?_⟩
 .have j:(c.vs.take n)[i]? =some y:=j
  rw[List.getElem?_take]at t j;split at t
  .rename_i M
   rw[if_pos M]at j;obtain⟨T,U,v⟩:=e.cell i l y t j;have E:=jo (X:=XE d) p r T (W i) U;exact⟨E.1,E.2,v⟩
  .cases t
 .exact F.2.congr fun s=>env_take s Q
 .have f:q[i]? =some k:=f
  have L:=(List.getElem?_eq_some_iff.1 f).1;have N:k<=n:=pair_le A k (List.mem_of_getElem? f);have v:=(e.out i m k (by rw[x,List.getElem?_append_left I7];exact P) (by rw[g,List.getElem?_append_left L];exact f)).keep (X:=XE d) p r (G i);have H:(c.vs.take n).take k=c.vs.take k:=by rw[List.take_take,Nat.min_eq_left N]
  refine⟨v.1,?_⟩;show MapV w' m ((c.vs.take n).take k).length _ (envF ((c.vs.take n).take k) (locs.take n));rw[H];refine v.2.congr fun s=>?_
  unfold envF;cases hes:kB (c.vs.take k) s with
  | none=>rfl
  | some z=>
    have I:=xb hes;rw[List.length_take]at I;dsimp only;rw[List.getElem?_take,if_pos I7]
 .show(q++[(c.vs.take n).length]).Pairwise (·<=·)
  rw[D];exact A
end
theorem mfin_let{G:Gm}{τ:Nat->Lb}{w:World}{m:Vm}(u:MW G τ w m){v:Value}{aa:Int}{name:ByteArray}{args:List Ex}{thn els:List St}(i:PtS G.B w v (.mk 1 aa name args thn els)){q:List Int}{x:Int}(y:m.v=q++[x])(aB:q.length<=1000000000){c:Fr}{r:List Fr}(A:m.cs=c::r)(Y:name.size<=maxLen)(Z:c.vs.length<=2000000000):
 Calls Tryz.prog 95 #[.pointer (some ⟨G.b,0,none⟩),v] w (uX G w ⟨m.s,q,{ c with vs:=c.vs++[(name,x)] } :: r⟩ (.tuple #[])):=by
 have N:=hid u;have Q:=hid y;have K:i64R x:=by obtain⟨_,_,_,_,d⟩:=u;exact d.nv x (by rw[y];exact List.mem_append_right _ (List.mem_singleton.2 rfl))
 have R:=hid K;have P:=hid i;have M:=hid A;obtain⟨g,o,rfl,az,_⟩:=i.cells;clear u y K A i;go_enter Tryz.func95,Tryz.ntmps95
 go_upto_region 1 with(first
  | (go_at_call 96;(with_reducible refine(jr N.out Q.out I7).mono ?_);rintro e j ⟨rfl,⟨τ1,vi,vv,pa,vo,d⟩,t⟩
     obtain⟨av,aE,f,_,aw,ax,ay,_⟩:=(P.out.below t Zr).cells;injection f with f;injection f with f;injection f with f S _;subst f S;have aD:=d.lt;have aA:g<j.heap.size:=by have:=d.hB;omega
     obtain⟨⟨ab,ad,ae,af,ag,ah,ai,aj,ak,al⟩,am⟩:=zI d.box;have C:=d.frs;rw[show(⟨m.s,q,m.cs⟩:Vm).cs=c::r from M.out]at C;obtain⟨a,aF,vc,mp,aG,locs,ms,rfl,n,I⟩:=C;obtain⟨⟨an,ao,ap,aq,ar⟩,au⟩:=zQ n.box;have aC:=zB n.box;have H:=hid d;have p:=hid n;have O:=hid I;have L:=hid t
     clear d n I t))
 go_wp2_with (fail)
 go_still_tail 12,(by kernel_rfl)
 repeat still_step
 change wpList _ _ _ _ _ j.drew;have W:=hid (p.out.map.2.of_block (w':=j.drew) rfl)
 go_wp2_with (go_at_call 92;(refine(mdecl_any W.out Z name Y x).mono ?_);rintro e w4 ⟨rfl,D,E,F,J⟩
              have l:=hid (And.intro D (And.intro E (And.intro ((OffX.drew (fun k=>k=mp) j).trans F fun _ _ d=>d) J)))
              clear D E F J)
 go_end0
 have z:OffX (fun k=>XD r.length (τ1 k)) j w4:=l.out.2.2.1.mono fun k _ (V:k=mp)=>by
  rw[V,p.out.map.1];exact .inr (.inr ⟨_,.inl rfl⟩)
 have T:=H.out.below (X:=XD r.length) z (xd_gl _).1;have U:=p.out.decl T l.out.2.2.1 (name:=name) l.out.1 l.out.2.1 R.out;have i:=H.out.top rfl z (Ext.lbl τ1 j _ Zr) O.out U;exact⟨rfl,⟨_,_,_,_,_,i.1⟩,L.out.trans i.2⟩
theorem mfin_set{G:Gm}{τ:Nat->Lb}{w:World}{m:Vm}(z:MW G τ w m){v:Value}{ae:Int}{name:ByteArray}{args:List Ex}{thn els:List St}(p:PtS G.B w v (.mk 2 ae name args thn els)){q:List Int}{x:Int}(A:m.v=q++[x])(aI:q.length<=1000000000){c:Fr}{r:List Fr}(F:m.cs=c::r)(ab:name.size<=maxLen){j:Nat}(K:kB c.vs name=some j):
 Calls Tryz.prog 95 #[.pointer (some ⟨G.b,0,none⟩),v] w (uX G w ⟨m.s,q,{ c with vs:=y6 c.vs name x } :: r⟩ (.tuple #[])):=by
 have T:=hid z;have W:=hid A;have N:i64R x:=by obtain⟨_,_,_,_,f⟩:=z;exact f.nv x (by rw[A];exact List.mem_append_right _ (List.mem_singleton.2 rfl))
 have Y:=hid N;have V:=hid p;have Q:=hid F;have C:=hid K;obtain⟨g,o,rfl,aG,_⟩:=p.cells;clear z A N F p K;go_enter Tryz.func95,Tryz.ntmps95
 go_upto_region 1 with(first
  | (go_at_call 96;(with_reducible refine(jr T.out W.out I7).mono ?_);rintro e d ⟨rfl,⟨τ1,vi,vv,pa,vo,f⟩,y⟩
     obtain⟨az,aM,l,_,aA,aB,aC,_⟩:=(V.out.below y Zr).cells;injection l with l;injection l with l;injection l with l Z _;subst l Z;have aL:=f.lt;have aH:g<d.heap.size:=by have:=f.hB;omega
     obtain⟨⟨ag,ah,ai,aj,ak,al,am,an,ao,ap⟩,aq⟩:=zI f.box;have J:=f.frs;rw[show(⟨m.s,q,m.cs⟩:Vm).cs=c::r from Q.out]at J;obtain⟨a,aN,vc,mp,aO,locs,ms,rfl,n,M⟩:=J;obtain⟨⟨ar,au,av,aw,ax⟩,ay⟩:=zQ n.box;have aJ:=zB n.box;obtain⟨b,af,E,ad,I,L,u,_,_⟩:=n.var C.out
     have aK:(Instr.lookup 163 (.map (some mp)) (.string name) false).run Tryz.prog d.drew=.ok (.pointer (some ⟨b,0,none⟩)) d.drew:=by
      have:=(n.map.2.of_block (w':=d.drew) rfl).look (t:=163) Tryz.underlying163 (zero_ptr _) ab;rw[I]at this;exact this
     have aD:d.cell? ⟨b,0,none⟩=some (.int .i64 af.2):=(Lib.cell_of_heap u 0).trans rfl;have aE:=zB u;have aF:∀i,d.frozen? ⟨b,i,none⟩=false:=fun i=>by simp[World.frozen?,u]
     have H:=hid f;have R:=hid n;have U:=hid M;have P:=hid y;have O:=hid E;have S:=hid L
     clear f n M y E ad I L u))
 go_wp2_with (fail)
 go_still_tail 14,(by kernel_rfl)
 repeat still_step
 change wpList _ _ _ _ _ d.drew;go_wp2_with (fail)
 go_end0
 have D:OffX (fun k=>XD r.length (τ1 k)) d (d.setCell ⟨b,0,none⟩ (.int .i64 x)):=OffX.set (X:=fun k=>XD r.length (τ1 k)) d (by show XD r.length (τ1 b);rw[S.out];exact .inr (.inr ⟨_,.inr rfl⟩)) 0 _;have aa:=H.out.below (X:=XD r.length) D (xd_gl _).1;have p:=H.out.top rfl D (Ext.refl τ1 d) U.out (R.out.setv C.out O.out aa Y.out);exact⟨rfl,⟨_,_,_,_,_,p.1.drew⟩,P.out.trans p.2.drew⟩
theorem arrF_put{p:Pr}{b:List Nat}{a:List (List Int)}{k:Nat}{l:List Int}(c:a[k]? =some l)(i:Nat)(n:Int)(s:ByteArray):arrF p b (a.set k (l.set i n)) s=arrF p b a s:=by
 unfold arrF;cases zb p.arrays s with
 | none=>rfl
 | some z=>
   show arV (b.getD z 0,(a.set k (l.set i n)).getD z [])=arV (b.getD z 0,a.getD z []);unfold arV;dsimp only
   have:((a.set k (l.set i n)).getD z []).length=(a.getD z []).length:=by
    rw[List.getD_eq_getElem?_getD,List.getD_eq_getElem?_getD,List.getElem?_set];by_cases d:k=z
    .subst d
     rw[if_pos rfl,if_pos (List.getElem?_eq_some_iff.1 c).1,c];simp
    .rw[if_neg d]
   rw[this]
theorem MwI.put{G:Gm}{τ:Nat->Lb}{w:World}{m:Vm}{vi vv pa vo:Value}(a:MwI G τ w m vi vv pa vo){p:List Nat}(f:ArrR G τ w m.s.arr p){k g:Nat}{l:List Int}(C:p[k]? =some g)(t:m.s.arr[k]? =some l)(I:w.heap[g]? =some (inO l)){i:Nat}(S:i<l.length){n:Int}(K:i64R n):
 MwI G τ (w.setCell ⟨g,i,none⟩ (.int .i64 n)) ⟨{ m.s with arr:=m.s.arr.set k (l.set i n) },m.v,m.cs⟩ vi vv pa vo/\Below G.B w (w.setCell ⟨g,i,none⟩ (.int .i64 n)):=by
 obtain⟨F,T,N,q4⟩:=f.row k g l C t;have J:=(List.getElem?_eq_some_iff.1 t).1;have c:OffX (fun u=>(fun x=>x=Lb.arr k) (τ u)) w (w.setCell ⟨g,i,none⟩ (.int .i64 n)):=OffX.set (X:=fun u=>(fun x=>x=Lb.arr k) (τ u)) w F i _;have j:=Ext.refl τ w;have A:=a.below (X:=fun x=>x=Lb.arr k) c Ib
 refine a.step (X:=fun x=>x=Lb.arr k) (m':=⟨{ m.s with arr:=m.s.arr.set k (l.set i n) },m.v,m.cs⟩) c j Ib ⟨Ib,Ib⟩ (jo (X:=fun x=>x=Lb.arr k) c j a.lab Ib a.box).2 (a.inp.below A Zr) (a.val.keep (X:=fun x=>x=Lb.arr k) c j Ib) (a.out.keep (X:=fun x=>x=Lb.arr k) c j Ib)
  (a.frs.keep (X:=fun x=>x=Lb.arr k) c j A ⟨Ib,fun d _=>⟨Ib,Ib,fun i=>⟨Ib,Ib⟩⟩⟩ Zr) ⟨p,?_⟩ a.nv a.ni a.no a.lim
 obtain⟨M,D⟩:=f.map;refine⟨f.lab,by show(m.s.arr.set _ _).length=_;rw[List.length_set];exact f.len,by show p.length=(m.s.arr.set _ _).length;rw[List.length_set];exact f.rl,⟨M,(D.of_block (c.block _ D.lt (by rw[f.lab];intro e;cases e))).congr fun s=>arrF_put t i n s⟩,fun y H l2 o b=>?_⟩;have b:(m.s.arr.set k (l.set i n))[y]? =some l2:=b;rw[List.getElem?_set]at b;by_cases r:k=y
 .subst r
  rw[if_pos rfl,if_pos J]at b;injection b with b;subst b;rw[C]at o;injection o with o;subst o;refine⟨F,?_,fun z L=>?_,by rw[List.length_set];exact q4⟩
  .rw[Lib.heap_setCell_same I _]
   congr 2;apply Array.ext';simp
  .rcases List.mem_or_eq_of_mem_set L with q|q
   .exact N z q
   .rw[q];exact K
 .rw[if_neg r]at b
  obtain⟨O,P,Q,R⟩:=f.row y H l2 o b;have E:=jo (X:=fun x=>x=Lb.arr k) c j O (by intro e;injection e with e;exact r e.symm) P;exact⟨E.1,E.2,Q,R⟩
theorem mfin_put_yes{G:Gm}{τ:Nat->Lb}{w:World}{m:Vm}(r:MW G τ w m){v:Value}{aD:Int}{name:ByteArray}{args:List Ex}{thn els:List St}(u:PtS G.B w v (.mk 3 aD name args thn els)){q:List Int}{x:Int}(A:m.v=q++[x])(S:q.length<=1000000000){i:Int}{D:List Int}(t:q=D++[i]){k:Nat}{l:List Int}(R:zb G.p.arrays name=some k)(T:m.s.arr[k]? =some l)(aC:name.size<=maxLen)(aA:m.s.cost+1+m.s.fuel<=1000000000)(P:0<=i/\i<(l.length:Int)):
 Calls Tryz.prog 95 #[.pointer (some ⟨G.b,0,none⟩),v] w (uX G w ⟨{ zT m.s with arr:=m.s.arr.set k (l.set i.toNat x) },D,m.cs⟩ (.tuple #[])):=by
 have af:=hid r;have ai:=hid A;have Y:i64R x:=by obtain⟨_,_,_,_,a⟩:=r;exact a.nv x (by rw[A];exact List.mem_append_right _ (List.mem_singleton.2 rfl))
 have aj:=hid Y;have ah:=hid u;have ag:=hid t;have ae:=hid R;have F:=hid T;have E:=hid P;have aB:D.length<=2000000000:=by rw[t]at S;simp at S;omega
 clear t R T P;obtain⟨g,o,rfl,aK,_⟩:=u.cells;clear r A Y u;go_enter Tryz.func95,Tryz.ntmps95
 go_upto_region 1 with(first
  | (go_at_call 96;(with_reducible refine(jr af.out ai.out I7).mono ?_);rintro e d ⟨rfl,⟨τ1,vi,vv,pa,vo,a⟩,j⟩
     obtain⟨aH,aU,c,_,L,ay,M,_⟩:=(ah.out.below j Zr).cells;injection c with c;injection c with c;injection c with c ax _;subst c ax;have aP:=a.lt;have aI:=a.hBb;have aN:g<d.heap.size:=Iq
     obtain⟨⟨ak,al,am,an,ao,ap,aq,ar,au,av⟩,aw⟩:=zI a.box;have H:=hid a;have ab:=hid j
     clear a j))
 have aR:IntKind.i64.wrap ((m.s.cost:Int)+1)=(m.s.cost:Int)+1:=Ie
 have az:g≠G.b:=I7
 have aQ:G.b≠g:=I7
 have V:=H.out.pay aA;have J:=hid V;have aE:=hid H.out.paid;have C:(d.setCell ⟨G.b,8,none⟩ (.int .i64 ((m.s.cost:Int)+1))).heap.size=d.heap.size:=Id
 have n:∀i,(d.setCell ⟨G.b,8,none⟩ (.int .i64 ((m.s.cost:Int)+1))).cell? ⟨g,i,none⟩=d.cell? ⟨g,i,none⟩:=fun i=>World.cell?_of_block (Below.heap_setCell d ⟨G.b,8,none⟩ (.int .i64 ((m.s.cost:Int)+1)) g az)
 have aF:=(n o).trans L;have aG:=(n (o+2)).trans M;clear V n;go_upto_region 8 with(fail);have aT:=Nat.le_of_eq C;have aS:=Nat.le_of_eq C.symm;generalize d.setCell ⟨G.b,8,none⟩ (.int .i64 ((m.s.cost:Int)+1))=W at *;clear C ak al am an ao ap aq ar au av aw L ay M;have aL:g<W.heap.size:=I7
 go_wp2_with (first
  | (go_at_call 115;(refine(mitem_yes (m:=⟨zT m.s,q,m.cs⟩) ⟨_,_,_,_,J.out.1⟩ ag.out aB ae.out F.out aC E.out).mono ?_)
     rintro e aa ⟨K,τ3,aX,aZ,aV,aY,aW,rfl,U,N,X,f,O⟩;have Q:i.toNat<l.length:=by have:=E.out;omega
     obtain⟨y,Z⟩:∃y,l[i.toNat]? =some y:=⟨_,List.getElem?_eq_getElem Q⟩
     have aJ:aa.cell? ⟨K,i.toNat,none⟩=some (.int .i64 y):=(Lib.cell_of_heap f i.toNat).trans (by simp[Z]);have aO:∀z,aa.frozen? ⟨K,z,none⟩=false:=fun z=>by simp[World.frozen?,f]
     have aM:=zB f;have I:=hid (U.put N X F.out f Q aj.out);have ad:=hid O
     clear U N X f O Z))
 go_end0
 exact⟨rfl,⟨_,_,_,_,_,I.out.1⟩,((ab.out.trans J.out.2).trans ad.out).trans I.out.2⟩
theorem mfin_put_no{G:Gm}{τ:Nat->Lb}{w:World}{m:Vm}(n:MW G τ w m){v:Value}{ap:Int}{name:ByteArray}{args:List Ex}{thn els:List St}(t:PtS G.B w v (.mk 3 ap name args thn els)){q:List Int}{x:Int}(u:m.v=q++[x])(F:q.length<=1000000000){i:Int}{L:List Int}(r:q=L++[i]){k:Nat}{l:List Int}(E:zb G.p.arrays name=some k)(I:m.s.arr[k]? =some l)(ao:name.size<=maxLen)(am:m.s.cost+1+m.s.fuel<=1000000000)(D:¬(0<=i/\i<(l.length:Int))):
 Calls Tryz.prog 95 #[.pointer (some ⟨G.b,0,none⟩),v] w (xr G w none (jq (zT m.s) 3)):=by
 have Q:=hid n;have T:=hid u;have K:i64R x:=by obtain⟨_,_,_,_,a⟩:=n;exact a.nv x (by rw[u];exact List.mem_append_right _ (List.mem_singleton.2 rfl))
 have ar:=hid K;have S:=hid t;have R:=hid r;have O:=hid E;have P:=hid I;have N:=hid D;have an:L.length<=2000000000:=by rw[r]at F;simp at F;omega
 clear r E I D;obtain⟨g,o,rfl,ay,_⟩:=t.cells;clear n u K t;go_enter Tryz.func95,Tryz.ntmps95
 go_upto_region 1 with(first
  | (go_at_call 96;(with_reducible refine(jr Q.out T.out I7).mono ?_);rintro e d ⟨rfl,⟨τ1,vi,vv,pa,vo,a⟩,f⟩
     obtain⟨aw,aG,c,_,A,ai,C,_⟩:=(S.out.below f Zr).cells;injection c with c;injection c with c;injection c with c ah _;subst c ah;have aB:=a.lt;have ax:=a.hBb;have aA:g<d.heap.size:=Iq
     obtain⟨⟨U,V,X,Y,Z,aa,ab,ad,ae,af⟩,ag⟩:=zI a.box;have H:=hid a;have M:=hid f
     clear a f))
 have aD:IntKind.i64.wrap ((m.s.cost:Int)+1)=(m.s.cost:Int)+1:=Ie
 have al:g≠G.b:=I7
 have aC:G.b≠g:=I7
 have J:=H.out.pay am;have z:=hid J;have aq:=hid H.out.paid;have y:(d.setCell ⟨G.b,8,none⟩ (.int .i64 ((m.s.cost:Int)+1))).heap.size=d.heap.size:=Id
 have j:∀i,(d.setCell ⟨G.b,8,none⟩ (.int .i64 ((m.s.cost:Int)+1))).cell? ⟨g,i,none⟩=d.cell? ⟨g,i,none⟩:=fun i=>World.cell?_of_block (Below.heap_setCell d ⟨G.b,8,none⟩ (.int .i64 ((m.s.cost:Int)+1)) g al)
 have au:=(j o).trans A;have av:=(j (o+2)).trans C;clear J j;go_upto_region 8 with(fail);have aF:=Nat.le_of_eq y;have aE:=Nat.le_of_eq y.symm;generalize d.setCell ⟨G.b,8,none⟩ (.int .i64 ((m.s.cost:Int)+1))=W at *;clear y U V X Y Z aa ab ad ae af ag A ai C;have az:g<W.heap.size:=I7
 go_wp2_with (first
  | (go_at_call 115;(refine(mitem_no (m:=⟨zT m.s,q,m.cs⟩) ⟨_,_,_,_,z.out.1⟩ R.out an O.out P.out ao N.out).mono ?_)
     rintro e aH ⟨rfl,ak,aj⟩
     exact⟨rfl,rfl,ak,(M.out.trans z.out.2).trans aj⟩))
theorem mfin_print{G:Gm}{τ:Nat->Lb}{w:World}{m:Vm}(u:MW G τ w m){v:Value}{ar:Int}{name:ByteArray}{args:List Ex}{thn els:List St}(z:PtS G.B w v (.mk 9 ar name args thn els)){q:List Int}{x:Int}(A:m.v=q++[x])(aR:q.length<=1000000000)(ap:m.s.cost+1+m.s.fuel<=1000000000):
 Calls Tryz.prog 95 #[.pointer (some ⟨G.b,0,none⟩),v] w (uX G w ⟨{ zT m.s with out:=m.s.out++[x] },q,m.cs⟩ (.tuple #[])):=by
 have T:=hid u;have Y:=hid A;have O:i64R x:=by obtain⟨_,_,_,_,a⟩:=u;exact a.nv x (by rw[A];exact List.mem_append_right _ (List.mem_singleton.2 rfl))
 have av:=hid O;have X:=hid z;obtain⟨g,o,rfl,aO,_⟩:=z.cells;clear u A O z;go_enter Tryz.func95,Tryz.ntmps95
 go_upto_region 1 with(first
  | (go_at_call 96;(with_reducible refine(jr T.out Y.out I7).mono ?_);rintro e d ⟨rfl,⟨τ1,vi,vv,pa,vo,a⟩,r⟩
     obtain⟨aJ,aZ,c,_,I,an,J,_⟩:=(X.out.below r Zr).cells;injection c with c;injection c with c;injection c with c am _;subst c am;have aS:=a.lt;have aL:=a.hBb;have aQ:g<d.heap.size:=Iq
     obtain⟨⟨Z,aa,ab,ad,ae,af,ag,ah,ai,aj⟩,ak⟩:=zI a.box;have H:=hid a;have S:=hid r
     clear a r))
 have aW:IntKind.i64.wrap ((m.s.cost:Int)+1)=(m.s.cost:Int)+1:=Ie
 have ao:g≠G.b:=I7
 have aU:G.b≠g:=I7
 have M:=H.out.pay ap;have j:=hid M;have E:=hid H.out.paid;have C:(d.setCell ⟨G.b,8,none⟩ (.int .i64 ((m.s.cost:Int)+1))).heap.size=d.heap.size:=Id
 have t:∀i,(d.setCell ⟨G.b,8,none⟩ (.int .i64 ((m.s.cost:Int)+1))).cell? ⟨g,i,none⟩=d.cell? ⟨g,i,none⟩:=fun i=>World.cell?_of_block (Below.heap_setCell d ⟨G.b,8,none⟩ (.int .i64 ((m.s.cost:Int)+1)) g ao)
 have aH:=(t o).trans I;have aI:=(t (o+2)).trans J;clear M t;go_upto_region 11 with(fail);have aY:=Nat.le_of_eq C;have aX:=Nat.le_of_eq C.symm;generalize d.setCell ⟨G.b,8,none⟩ (.int .i64 ((m.s.cost:Int)+1))=W at *;clear C Z aa ab ad ae af ag ah ai aj ak I an J;have aP:g<W.heap.size:=I7
 obtain⟨⟨aw,ax,ay,az,aA,aB,aC,al,aD,aE⟩,aF⟩:=zI E.out;have aT:G.b<W.heap.size:=zB E.out;obtain⟨aq,L,P,Q,R⟩:=info_parts vk;have l:=hid (And.intro L (And.intro P (And.intro Q R)));obtain⟨p,cc,f⟩:=j.out.1.out.form;have f:vo=.slice p m.s.out.length cc:=f;rw[f]at al;have F:=hid f;have aV:m.s.out.length<=1000000000:=by have:=H.out.no;have aK:m.s.out.length<=m.s.cost:=this;omega
 have aM:G.B<=W.heap.size:=j.out.1.hB;have V:=hid (show(W.alloc (.cells #[.int .i64 x] 3)).ownsRow G.B 3 1 (.slice p m.s.out.length cc) m.s.out.length (m.s.out.map (Value.int .i64))from f ▸ qR j.out.1.out.1 ((Below.refl W.heap.size W).alloc Zr _) Zr);have U:=hid (yO W [.int .i64 x] 3);clear L P Q R f
 go_wp2_with (at_builtin;refine jC rfl (.tmp 77) (.tmp 79) _ rfl G.B 3 aq _ 1 8 Tryz.underlying23 l.out.1 l.out.2.1 l.out.2.2.1 l.out.2.2.2 rfl I7 (.slice p m.s.out.length cc) m.s.out.length _ rfl (by exact V.out) ⟨W.heap.size,0,none⟩ 1 1 [.int .i64 x] rfl rfl (by exact U.out) Ig If I7 I9 I7 ?_
              intro a0 w8 y K N;obtain⟨au,aG,rfl⟩:=zU y;have k:=j.out.1.print (n:=x) ((Below.refl W.heap.size W).alloc Zr (.cells #[.int .i64 x] 3)) (by rw[F.out];exact K) (by rw[F.out];exact N) y (Nat.succ_le_succ H.out.no);have D:=hid (And.intro k.2.1 k.2.2);obtain⟨⟨a1,a2,a3,a4,a5,a6,a7,a8,a9,ba⟩,bb⟩:=zI k.1;have aN:G.b<w8.heap.size:=zB k.1
              clear y K N k)
 go_end0
 exact⟨rfl,D.out.1,(S.out.trans j.out.2).trans D.out.2⟩
theorem mfin_do{G:Gm}{τ:Nat->Lb}{w:World}{m:Vm}(f:MW G τ w m){v:Value}{u:Int}{name:ByteArray}{args:List Ex}{thn els:List St}(i:PtS G.B w v (.mk 10 u name args thn els)){q:List Int}{x:Int}(j:m.v=q++[x])(V:q.length<=1000000000):
 Calls Tryz.prog 95 #[.pointer (some ⟨G.b,0,none⟩),v] w (uX G w ⟨m.s,q,m.cs⟩ (.tuple #[])):=by
 have n:=hid f;have r:=hid j;have k:i64R x:=by obtain⟨_,_,_,_,a⟩:=f;exact a.nv x (by rw[j];exact List.mem_append_right _ (List.mem_singleton.2 rfl))
 have z:=hid k;have p:=hid i;obtain⟨g,o,rfl,T,_⟩:=i.cells;clear f j k i;go_enter Tryz.func95,Tryz.ntmps95
 go_upto_region 1 with(first
  | (go_at_call 96;(with_reducible refine(jr n.out r.out I7).mono ?_);rintro e y ⟨rfl,⟨τ1,vi,vv,pa,vo,a⟩,d⟩
     obtain⟨O,X,c,_,P,Q,R,_⟩:=(p.out.below d Zr).cells;injection c with c;injection c with c;injection c with c t _;subst c t;have W:=a.lt;have S:=a.hBb;have U:g<y.heap.size:=Iq
     obtain⟨⟨A,C,D,E,F,I,J,K,L,M⟩,N⟩:=zI a.box;have H:=hid a;have l:=hid d
     clear a d))
 go_wp2_with (fail)
 go_end0
 exact⟨rfl,⟨_,_,_,_,_,H.out⟩,l.out⟩
theorem mfin_ret_end{G:Gm}{τ:Nat->Lb}{w:World}{m:Vm}(i:MW G τ w m){v:Value}{D:Int}{name:ByteArray}{args:List Ex}{thn els:List St}(j:PtS G.B w v (.mk 8 D name args thn els)){q:List Int}{x:Int}(k:m.v=q++[x])(aa:q.length<=1000000000){c:Fr}(l:m.cs=[c]):
 Calls Tryz.prog 95 #[.pointer (some ⟨G.b,0,none⟩),v] w (xr G w (some x) m.s):=by
 have t:=hid i;have y:=hid k;have n:i64R x:=by obtain⟨_,_,_,_,a⟩:=i;exact a.nv x Ua
 have F:=hid n;have u:=hid j;have r:=hid l;clear l;obtain⟨g,o,rfl,Y,_⟩:=j.cells;clear i k n j;go_enter Tryz.func95,Tryz.ntmps95
 go_upto_region 1 with(first
  | (go_at_call 96;(with_reducible refine(jr t.out y.out I7).mono ?_);rintro e E ⟨rfl,⟨τ1,vi,vv,pa,vo,a⟩,f⟩
     obtain⟨T,ad,d,_,U,V,W,_⟩:=(u.out.below f Zr).cells;injection d with d;injection d with d;injection d with d z _;subst d z;have ab:=a.lt;have X:=a.hBb;have Z:g<E.heap.size:=Iq
     obtain⟨⟨I,J,K,L,M,N,O,P,Q,R⟩,S⟩:=zI a.box;have H:=hid a;have p:=hid f
     clear a f))
 go_wp2_with (first
  | (go_at_call 117;(refine(mleave_end (m:=⟨m.s,q,m.cs⟩) ⟨_,_,_,_,H.out⟩ r.out x).mono ?_)
     rintro e ae ⟨rfl,C,A⟩
     exact⟨rfl,rfl,C,p.out.trans A⟩))
theorem mfin_ret_go{G:Gm}{τ:Nat->Lb}{w:World}{m:Vm}(j:MW G τ w m){v:Value}{K:Int}{name:ByteArray}{args:List Ex}{thn els:List St}(k:PtS G.B w v (.mk 8 K name args thn els)){q:List Int}{x:Int}(l:m.v=q++[x])(af:q.length<=1000000000){c d:Fr}{r:List Fr}(p:m.cs=c::d::r):
 Calls Tryz.prog 95 #[.pointer (some ⟨G.b,0,none⟩),v] w (uX G w ⟨m.s,q++[x],d::r⟩ (.tuple #[])):=by
 have C:=hid j;have F:=hid l;have u:i64R x:=by obtain⟨_,_,_,_,a⟩:=j;exact a.nv x (by rw[l];exact List.mem_append_right _ (List.mem_singleton.2 rfl))
 have I:=hid u;have E:=hid k;have A:=hid p;clear p;obtain⟨g,o,rfl,ad,_⟩:=k.cells;clear j l u k;go_enter Tryz.func95,Tryz.ntmps95
 go_upto_region 1 with(first
  | (go_at_call 96;(with_reducible refine(jr C.out F.out I7).mono ?_);rintro e L ⟨rfl,⟨τ1,vi,vv,pa,vo,a⟩,i⟩
     obtain⟨X,ah,f,_,Y,Z,aa,_⟩:=(E.out.below i Zr).cells;injection f with f;injection f with f;injection f with f J _;subst f J;have ag:=a.lt;have ab:=a.hBb;have ae:g<L.heap.size:=Iq
     obtain⟨⟨M,N,O,P,Q,R,S,T,U,V⟩,W⟩:=zI a.box;have H:=hid a;have y:=hid i
     clear a i))
 go_wp2_with (first
  | (go_at_call 117;(refine(mleave_go (m:=⟨m.s,q,m.cs⟩) ⟨_,_,_,_,H.out⟩ A.out x I.out IJ).mono ?_)
     rintro e ai ⟨rfl,t,n⟩;have D:=hid t;have z:=hid n
     clear t n))
 go_end0
 exact⟨rfl,D.out,y.out.trans z.out⟩
end Go.Proofs.YthcmenajdcbnnaaGreatDoor
