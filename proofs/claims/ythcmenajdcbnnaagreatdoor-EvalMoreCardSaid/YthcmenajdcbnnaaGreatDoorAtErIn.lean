import Derived.Test.YthcmenajdcbnnaaGreatDoorAtEvMi
set_option linter.unusedSimpArgs false
set_option linter.unusedVariables false
set_option maxRecDepth 100000
set_option maxHeartbeats 99000000
/- The document's runs, whole. -/
namespace Go.Proofs.YthcmenajdcbnnaaGreatDoor
open Lib (hid)
open Go.RowKit
abbrev reO(a b:Int)(v:Value)(d e:Int):Obj:=.cells #[.int .i64 a,.int .i64 b,v,.int .i64 d,.int .i64 e] 35
theorem five_set{W:World}{g:Nat}{f i j k l:Value}{T:TypeId}(m:W.heap[g]? =some (.cells #[f,i,j,k,l] T (0,0)))(a b c d e:Value):
 (((((W.setCell ⟨g,0,none⟩ a).setCell ⟨g,1,none⟩ b).setCell ⟨g,2,none⟩ c).setCell ⟨g,3,none⟩ d).setCell ⟨g,4,none⟩ e).heap[g]? =some (.cells #[a,b,c,d,e] T (0,0)):=
 Lib.heap_setCell_same (Lib.heap_setCell_same (Lib.heap_setCell_same (Lib.heap_setCell_same (Lib.heap_setCell_same m a) b) c) d) e
theorem five_other(W:World){g k:Nat}(a:k≠g)(b c d e f:Value):(((((W.setCell ⟨g,0,none⟩ b).setCell ⟨g,1,none⟩ c).setCell ⟨g,2,none⟩ d).setCell ⟨g,3,none⟩ e).setCell ⟨g,4,none⟩ f).heap[k]? =W.heap[k]?:=
 (Below.heap_setCell _ ⟨g,4,none⟩ _ k a).trans ((Below.heap_setCell _ ⟨g,3,none⟩ _ k a).trans ((Below.heap_setCell _ ⟨g,2,none⟩ _ k a).trans ((Below.heap_setCell _ ⟨g,1,none⟩ _ k a).trans (Below.heap_setCell _ ⟨g,0,none⟩ _ k a))))
theorem five_below{W w:World}{g B:Nat}(i:Below B w W)(a:B<=g)(b c d e f:Value):Below B w (((((W.setCell ⟨g,0,none⟩ b).setCell ⟨g,1,none⟩ c).setCell ⟨g,2,none⟩ d).setCell ⟨g,3,none⟩ e).setCell ⟨g,4,none⟩ f):=
 ((((i.setCell (p:=⟨g,0,none⟩) a _).setCell (p:=⟨g,1,none⟩) a _).setCell (p:=⟨g,2,none⟩) a _).setCell (p:=⟨g,3,none⟩) a _).setCell (p:=⟨g,4,none⟩) a _
theorem made_zeros(n:Nat):madeCells (Value.int .i64 0).cells (n*1)=((List.replicate n (0 :Int)).map (Value.int .i64)).toArray:=by
 unfold madeCells;rw[Nat.mul_one];apply Array.ext
 .simp
 .intro i a b
  simp[Value.cells,Nat.mod_one]
theorem make_ints(n:Nat)(f:n<=1000)(w:World):(Instr.makeSlice 23 (.int .i64 (n:Int)) (.int .i64 (n:Int))).run Tryz.prog w=.ok (.slice (some ⟨w.heap.size,0,none⟩) n n) (w.alloc (inO (List.replicate n 0))):=by
 obtain⟨e,a,b,c,d⟩:=info_parts vk;have:=run_make (P:=Tryz.prog) w 23 3 e _ Tryz.underlying23 a b .i64 .i64 (n:Int) (n:Int) I7 (Int.le_refl _) (by rw[d];omega) I7;rw[this,c,Int.toNat_natCast,made_zeros]
end Go.Proofs.YthcmenajdcbnnaaGreatDoor
namespace Go.Proofs.YthcmenajdcbnnaaGreatDoor
open Lib (hid)
open Go.RowKit Go.Maps
abbrev zF:Value:=.agg #[.slice none 0 0,.slice none 0 0]
abbrev m0O(H:Nat)(a:Value)(F:Int):Obj:=.cells #[.map (some (H+1)),.map (some (H+1+1)),a,.slice none 0 0,.pointer none,.int .i64 0,.int .i64 0,.slice none 0 0,.int .i64 0,.int .i64 F] 74
structure FunOk (p:Pr):Prop where
 nm:∀(i j:Nat) (f g:Fu),i<j->p.funcs[i]? =some f->p.funcs[j]? =some g->f.name≠g.name
 sz:∀f∈p.funcs,f.name.size<=maxLen
 bd:∀f∈p.funcs,stsOK f.body 100=true/\lenTs f.body 0<=1000000000
 an:∀(i j:Nat) (f g:Ar),i<j->p.arrays[i]? =some f->p.arrays[j]? =some g->f.name≠g.name
 az:∀a∈p.arrays,a.name.size<=maxLen/\0<=a.size/\a.size<=1000
structure NmF (H:Nat) (p:Pr) (vi:Value) (pgo:Obj) (w:World) (j:Nat) (fv:ByteArray->Value) (wr:World):Prop where
 bel:Below H w wr
 sz:H+4<=wr.heap.size
 pb:wr.heap[H]? =some pgo
 mb:wr.heap[H+1+1+1]? =some (m0O H vi 0)
 fm:MapV wr (H+1) j zF fv
 am:MapV wr (H+1+1) 0 (.slice none 0 0) fun _=>.slice none 0 0
 fs:∀(i:Nat) (f:Fu),i<j->p.funcs[i]? =some f->∃vp vc,fv f.name=.agg #[vp,vc]/\SlP H wr vp f.params/\CodeN H (H+4) wr vc (genF f)
theorem NmF.below{H:Nat}{p:Pr}{e:Value}{d:Obj}{w:World}{j:Nat}{c:ByteArray->Value}{wr w':World}(b:NmF H p e d w j c wr)(a:Below wr.heap.size wr w'):NmF H p e d w j c w':=by
 have n:=b.sz;refine⟨b.bel.trans (a.mono I7),Nat.le_trans n a.size,(a.block _ I7).trans b.pb,(a.block _ I7).trans b.mb,b.fm.of_block (a.block _ I7),b.am.of_block (a.block _ I7),fun i f l g=>?_⟩;obtain⟨t,s,o,q,r⟩:=b.fs i f l g;exact⟨t,s,o,q.below (a.mono I7) Zr,r.keep (a.mono I7) a.size fun k _ m=>a.block k m⟩
theorem NmF.next{H:Nat}{p:Pr}{u:Value}{t:Obj}{w:World}{j:Nat}{q:ByteArray->Value}{wr w':World}(B:FunOk p)(b:NmF H p u t w j q wr){f:Fu}(s:p.funcs[j]? =some f){o n:Value}(v:SlP H wr o f.params)(x:CodeN H (H+4) wr n (genF f))(z:MapV w' (H+1) (j+1) zF (upV q f.name (.agg #[o,n])))(a:wr.grownBy w' (some (H+1))):
 NmF H p u t w (j+1) (upV q f.name (.agg #[o,n])) w':=by
 have C:=b.sz;have c:∀k,k<wr.heap.size->k≠H+1->w'.heap[k]? =wr.heap[k]?:=fun k m A=>a.block k m fun e=>by injection e with e;exact A e
 have l:Below H wr w':=⟨a.os,a.tape,a.output,a.size,fun k m=>c k I7 I7⟩
 refine⟨b.bel.trans l,Nat.le_trans C a.size,(c _ I7 I7).trans b.pb,(c _ I7 I7).trans b.mb,z,b.am.of_block (c _ I7 I7),fun i g J d=>?_⟩;by_cases y:i=j
 .subst y
  rw[s]at d;injection d with d;subst d;exact⟨o,n,if_pos rfl,v.below l Zr,x.keep l a.size fun k m r=>c k r I7⟩
 .obtain⟨I,G,D,E,F⟩:=b.fs i g I7 d
  exact⟨I,G,(if_neg (B.nm i j g f I7 d s)).trans D,E.below l Zr,F.keep l a.size fun k m r=>c k r I7⟩
def arrN(l:List Ar)(b:List Nat)(s:ByteArray):Value:=match zb l s with
 | some k=>arV (b.getD k 0,List.replicate ((l[k]?.map fun a=>a.size.toNat).getD 0) 0)
 | none=>.slice none 0 0
structure NmA (H:Nat) (p:Pr) (wM:World) (j:Nat) (rows:List Nat) (wr:World):Prop where
 off:OffX (fun k=>k=H+1+1) wM wr
 am:MapV wr (H+1+1) j (.slice none 0 0) (arrN (p.arrays.take j) rows)
 rl:rows.length=j
 ord:rows.Pairwise (· < ·)
 row:∀(k g:Nat) (a:Ar),rows[k]? =some g->p.arrays[k]? =some a->wM.heap.size<=g/\g<wr.heap.size/\wr.heap[g]? =some (inO (List.replicate a.size.toNat 0))
theorem NmA.below{H:Nat}{p:Pr}{f:World}{j:Nat}{e:List Nat}{wr w':World}(b:NmA H p f j e wr)(c:Below wr.heap.size wr w'):NmA H p f j e w':=by
 refine⟨b.off.trans (OffX.of_below (fun _=>False) c) fun _ _ m=>m.elim,b.am.of_block (c.block _ b.am.lt),b.rl,b.ord,fun k g a l i=>?_⟩;obtain⟨n,d,o⟩:=b.row k g a l i;exact⟨n,Nat.lt_of_lt_of_le d c.size,(c.block g d).trans o⟩
theorem idxA_app{a b:List Ar}{s:ByteArray}:zb (a++b) s=match zb a s with|some k=>some k|none=>(zb b s).map (·+a.length):=by
 induction a with
 | nil=>
   rw[List.nil_append];cases zb b s <;> rfl
 | cons x r d=>
   rw[List.cons_append,zb,zb];by_cases c:x.name=s
   .rw[if_pos c,if_pos c]
   .rw[if_neg c,if_neg c,d]
    cases zb r s with
    | some k=>rfl
    | none=>
      cases zb b s with
      | none=>rfl
      | some k=>
        show some (k+r.length+1)=some (k+(r.length+1));rfl
theorem heap_alloc_old'(w:World)(o:Obj){i:Nat}(h:i<w.heap.size):(w.alloc o).heap[i]? =w.heap[i]?:=Below.heap_alloc w o i h
theorem NmA.next{H:Nat}{p:Pr}{v:World}{j:Nat}{m:List Nat}{wr w':World}(G:FunOk p)(d:NmA H p v j m wr)(Q:H+4<=v.heap.size){a:Ar}(o:p.arrays[j]? =some a)(C:MapV w' (H+1+1) (j+1) (.slice none 0 0) (upV (arrN (p.arrays.take j) m) a.name (.slice (some ⟨wr.heap.size,0,none⟩) a.size.toNat a.size.toNat)))(u:(wr.alloc (inO (List.replicate a.size.toNat 0))).grownBy w' (some (H+1+1))):
 NmA H p v (j+1) (m++[wr.heap.size]) w':=by
 have R:=zA wr (inO (List.replicate a.size.toNat 0));have J:=d.off.size;have w:∀k,k<wr.heap.size+1->k≠H+1+1->w'.heap[k]? =(wr.alloc (inO (List.replicate a.size.toNat 0))).heap[k]?:=fun k c E=>u.block k I7 fun e=>by injection e with e;exact E e
 have K:p.arrays.take (j+1)=p.arrays.take j++[a]:=by rw[List.take_add_one,o];rfl
 have z:(p.arrays.take j).length=j:=by
  have:=(List.getElem?_eq_some_iff.1 o).1;rw[List.length_take];omega
 refine⟨(d.off.trans (OffX.alloc (fun k=>k=H+1+1) wr _) fun _ _ t=>t).trans (OffX.grown (X:=fun k=>k=H+1+1) u fun k c=>by injection c with c;exact c.symm) fun _ _ t=>t,C.congr fun s=>?_,by rw[List.length_append,d.rl];rfl,?_,fun k g b c l=>?_⟩
 .unfold upV arrN
  rw[K,idxA_app];by_cases r:s=a.name
  .rw[if_pos r]
   have F:zb (p.arrays.take j) s=none:=idxA_none fun i f q=>by
    have y:i<j:=by have:=(List.getElem?_eq_some_iff.1 q).1;omega
    rw[r];exact G.an i j f a y (by rw[List.getElem?_take_of_lt y]at q;exact q) o
   rw[F];simp only[zb,if_pos r.symm,Option.map_some,Nat.zero_add,z];rw[List.getElem?_append_right I7,z,Nat.sub_self]
   have I:(m++[wr.heap.size])[j]? =some wr.heap.size:=by
    rw[List.getElem?_append_right (by rw[d.rl];exact Nat.le_refl _),d.rl,Nat.sub_self];rfl
   simp[arV,I]
  .rw[if_neg r]
   have D:zb [a] s=none:=by rw[zb,if_neg (fun e:a.name=s=>r e.symm)];rfl
   cases hi:zb (p.arrays.take j) s with
   | none=>rw[D];rfl
   | some k=>
     obtain⟨f,q,_⟩:=idxA_lt hi;have c:=(List.getElem?_eq_some_iff.1 q).1;dsimp only;rw[List.getElem?_append_left c];rw[show(m++[wr.heap.size]).getD k 0=m.getD k 0 by rw[List.getD_eq_getElem?_getD,List.getElem?_append_left (by rw[d.rl];omega),List.getD_eq_getElem?_getD]]
 .rw[List.pairwise_append]
  refine⟨d.ord,List.pairwise_singleton _ _,fun x t S L=>?_⟩;rw[List.mem_singleton.1 L];obtain⟨k,c⟩:=List.mem_iff_getElem?.1 t;have n:=(List.getElem?_eq_some_iff.1 c).1;have:=(List.getElem?_eq_some_iff.1 o).1;obtain⟨b,l⟩:∃b,p.arrays[k]? =some b:=⟨_,List.getElem?_eq_getElem (by rw[d.rl]at n;omega)⟩
  exact(d.row k x b c l).2.1
 .rcases Nat.lt_or_ge k m.length with n|n
  .rw[List.getElem?_append_left n]at c
   obtain⟨M,N,O⟩:=d.row k g b c l;have A:=u.size;exact⟨M,I7,(w g I7 I7).trans ((heap_alloc_old' wr _ N).trans O)⟩
  .rw[List.getElem?_append_right n,d.rl]at c
   have P:k-j=0:=by
    have:=(List.getElem?_eq_some_iff.1 c).1;simp at this;exact this
   have B:k=j:=by rw[d.rl]at n;omega
   subst B;rw[Nat.sub_self]at c;simp at c;subst c;rw[o]at l;injection l with l;subst l;have A:=u.size;exact⟨J,I7,(w _ I7 I7).trans (heap_alloc_new wr _)⟩
theorem wnew_any(p:Pr)(ao ap aq:Value)(y:List Int)(F:Nat)(w:World)(aa:SlA w.heap.size w ao p.arrays)(ab:SlF w.heap.size w ap p.funcs)(af:SlC w.heap.size w aq y)(aM:FunOk p):
 Calls Tryz.prog 32 #[.agg #[ao,ap],aq,.int .i64 (F:Int)] w fun e w'=>e=.returned (.pointer (some ⟨w.heap.size+1+1+1,0,none⟩))/\∃(K:ByteArray->Value) (V:List Nat) (r aQ:World),NmF w.heap.size p aq (.cells #[ao,ap] 27) w p.funcs.length K r/\NmA w.heap.size p r p.arrays.length V aQ/\w'=aQ.setCell ⟨w.heap.size+1+1+1,9,none⟩ (.int .i64 (F:Int)):=by
 obtain⟨d,m,rfl,_⟩:=aa.form;obtain⟨l,q,rfl,_⟩:=ab.form;obtain⟨⟨A,D,rfl,_⟩,_⟩:=af;have b4:=@run_makeMap Tryz.prog;have aU:=hid aa;have aY:=hid ab;have B:=hid aM;clear aa ab aM;go_enter Tryz.func32,Tryz.ntmps32;go_upto_region 2 with(fail)
 have T:NmF w.heap.size p (.slice A y.length D) (.cells #[.slice d p.arrays.length m,.slice l p.funcs.length q] 27) w 0 (fun _=>zF) ((((w.alloc (.cells #[.slice d p.arrays.length m,.slice l p.funcs.length q] 27)).alloc (.map #[] 0)).alloc (.map #[] 0)).alloc (m0O w.heap.size (.slice A y.length D) 0)):=by
  have aR:(w.alloc (.cells #[.slice d p.arrays.length m,.slice l p.funcs.length q] 27)).heap.size=w.heap.size+1:=zA _ _;have X:=heap_alloc_new w (.cells #[.slice d p.arrays.length m,.slice l p.funcs.length q] 27);have c:Below w.heap.size w (w.alloc (.cells #[.slice d p.arrays.length m,.slice l p.funcs.length q] 27)):=Zb.alloc Zr _;generalize w.alloc (.cells #[.slice d p.arrays.length m,.slice l p.funcs.length q] 27)=W1 at *;have aS:(W1.alloc (.map #[] 0)).heap.size=w.heap.size+1+1:=by rw[zA,aR]
  have bv:MapV (W1.alloc (.map #[] 0)) (w.heap.size+1) 0 zF fun _=>zF:=aR ▸ emap_made W1 zF
  have Y:=(Below.heap_alloc W1 (.map #[] 0) w.heap.size I7).trans X;have E:Below w.heap.size w (W1.alloc (.map #[] 0)):=c.alloc I7 _;generalize W1.alloc (.map #[] 0)=W2 at *;have bJ:(W2.alloc (.map #[] 0)).heap.size=w.heap.size+1+1+1:=by rw[zA,aS]
  have bx:MapV (W2.alloc (.map #[] 0)) (w.heap.size+1+1) 0 (.slice none 0 0) fun _=>.slice none 0 0:=aS ▸ emap_made W2 (.slice none 0 0)
  have bw:=bv.of_block (Below.heap_alloc W2 (.map #[] 0) (w.heap.size+1) I7);have Z:=(Below.heap_alloc W2 (.map #[] 0) w.heap.size I7).trans Y;have bh:Below w.heap.size w (W2.alloc (.map #[] 0)):=E.alloc I7 _;generalize W2.alloc (.map #[] 0)=W3 at *;have cj:=zA W3 (m0O w.heap.size (.slice A y.length D) 0);exact⟨bh.alloc I7 _,I7,(Below.heap_alloc W3 _ w.heap.size I7).trans Z,bJ ▸ heap_alloc_new W3 _,bw.of_block (Below.heap_alloc W3 _ _ I7),bx.of_block (Below.heap_alloc W3 _ _ I7),fun i f af=>I7⟩
 generalize(((w.alloc (.cells #[.slice d p.arrays.length m,.slice l p.funcs.length q] 27)).alloc (.map #[] 0)).alloc (.map #[] 0)).alloc (.cells #[.map (some (w.heap.size+1)),.map (some (w.heap.size+1+1)),.slice A y.length D,.slice none 0 0,.pointer none,.int .i64 0,.int .i64 0,.slice none 0 0,.int .i64 0,.int .i64 0] 74)=W0 at *;obtain⟨⟨b8,b9⟩,ca⟩:=zO T.pb;have b5:w.heap.size<W0.heap.size:=zB T.pb;have a3:=hid T;clear T;go_wp2_with (fail)
 go_loopw [20] (fun iv wr=>∃(j:Nat) (K:ByteArray->Value),j<=p.funcs.length/\iv=.int .i64 (j:Int)/\NmF w.heap.size p (.slice A y.length D) (.cells #[.slice d p.arrays.length m,.slice l p.funcs.length q] 27) w j K wr) (fun iv _=>p.funcs.length-(intOf iv).toNat)
 case atStart=>exact⟨0,_,Nat.zero_le _,rfl,a3.out⟩
 case round=>
  obtain⟨j,K,b1,rfl,b⟩:=hrel;have au:=hid b;by_cases ag:j<p.funcs.length
  .obtain⟨f,Q⟩:∃f,p.funcs[j]? =some f:=⟨_,List.getElem?_eq_getElem ag⟩
   have R:=List.mem_of_getElem? Q;obtain⟨g,o,cb,cc,rfl,ae,an,U,bz,bA,ai,ad⟩:=(aY.out.below b.bel Zr).cells Q;obtain⟨z,C,rfl,_⟩:=ai.form;obtain⟨I,J,rfl,_⟩:=ad.form;have aO:=b.sz;have bi:g<wr.heap.size:=I7
   have c:Below wr.heap.size wr (wr.alloc (fuO f.name f.type (.slice z f.params.length C) (.slice I f.body.length J))):=Zb.alloc Zr _;have u:=heap_alloc_new wr (fuO f.name f.type (.slice z f.params.length C) (.slice I f.body.length J));have ak:(wr.alloc (fuO f.name f.type (.slice z f.params.length C) (.slice I f.body.length J))).heap.size=wr.heap.size+1:=zA _ _;have G:=b.below c;have aj:=ai.below (c.mono I7) (Nat.le_refl w.heap.size);have aG:=ad.below (c.mono I7) (Nat.le_refl w.heap.size);clear b ai ad;go_upto_region 5 with(fail);generalize wr.alloc (.cells #[.string f.name,.int .i64 f.type,.slice z f.params.length C,.slice I f.body.length J] 93)=W at *;have H:=G.below (Below.refl W.heap.size W).drew;have v:W.drew.heap.size=W.heap.size:=rfl;obtain⟨⟨bC,bD,cf,cg⟩,bF⟩:=zR u;obtain⟨⟨av,aw,ax,ay,az,aA,aB,aC,aD,aE⟩,aF⟩:=zI G.mb;have bl:wr.heap.size<W.heap.size:=I7
   have bm:w.heap.size+1+1+1<W.heap.size:=I7
   have a0:=hid H;have a5:=hid u;have aX:=hid Q;have a2:=hid aj;have aW:=hid (wfun_any w.heap.size f (.slice z f.params.length C) (.slice I f.body.length J) W.drew (by rw[v];omega) (aj.below Zb.drew Zr) (aG.below Zb.drew Zr) (B.out.bd f R).1 (B.out.bd f R).2);have bs:=B.out.sz f R;clear c u G aj aG H Q R an U bz bA
   go_region_law (first
    | (go_simp;go_at_call 67;(refine aW.out.mono ?_);rintro e ce ⟨cd,rfl,E,aI⟩
       have N:=a0.out.below E;have aJ:=aI.mono (show w.heap.size+4<=W.drew.heap.size by rw[v];omega);have aN:=a2.out.below (((Below.refl _ W).drew).trans (E.mono (show w.heap.size<=W.drew.heap.size by rw[v];omega))) (Nat.le_refl w.heap.size);have al:=(E.block wr.heap.size (by rw[v];omega)).trans a5.out;obtain⟨aT,bf,rfl,_⟩:=aI;obtain⟨aP,bu,M,L⟩:=N.fm.upd (t:=70) Tryz.underlying70 IX bs (.agg #[.slice z f.params.length C,.slice aT (genF f).length bf]);have aZ:=hid (N.next B.out aX.out aN aJ M L);obtain⟨⟨bG,bH,ch,ci⟩,bI⟩:=zR al;obtain⟨⟨a6,X,Y,Z,a7,a8,a9,ba,bb,bc⟩,be⟩:=zI N.mb;have bn:=zB al;have bo:=zB N.mb
       clear N aJ aN al M L E))
   all_goals
    go_wp2_with (fail);go_roundw
    case rel=>exact⟨j+1,_,I7,by go_num,aZ.out⟩
    case measure=>simp[intOf];omega
  .have bk:j=p.funcs.length:=by omega
   subst bk;obtain⟨⟨bG,bH⟩,bI⟩:=zO b.pb;have aO:=b.sz;have b6:w.heap.size<wr.heap.size:=I7
   obtain⟨r,O⟩:∃x,x=wr:=⟨_,rfl⟩
   have ar:=hid (show NmF w.heap.size p (.slice A y.length D) (.cells #[.slice d p.arrays.length m,.slice l p.funcs.length q] 27) w p.funcs.length K r by rw[O];exact b);have bt:w.heap.size+4<=r.heap.size:=by rw[O];exact aO
   have aV:=hid (show Below w.heap.size w r by rw[O];exact b.bel);have a4:=hid (show NmA w.heap.size p r 0 [] wr from⟨by rw[O];exact OffX.refl _ _,b.am.congr (fun s=>rfl),rfl,List.Pairwise.nil,fun k g a ae=>by simp at ae⟩);clear b O;go_wp2_with (fail)
   go_loopw [36] (fun iv wr=>∃(i:Nat) (V:List Nat),i<=p.arrays.length/\iv=.int .i64 (i:Int)/\NmA w.heap.size p r i V wr) (fun iv _=>p.arrays.length-(intOf iv).toNat)
   case atStart=>exact⟨0,_,Nat.zero_le _,rfl,a4.out⟩
   case round=>
    obtain⟨i,V,af,rfl,b⟩:=hrel;have au:=hid b;have b7:=b.off.size;have S:=b.off.at (by omega:¬(w.heap.size+1+1+1=w.heap.size+1+1)) ar.out.mb;obtain⟨⟨av,aw,ax,ay,az,aA,aB,aC,aD,aE⟩,aF⟩:=zI S;have bm:w.heap.size+1+1+1<wr.heap.size:=I7
    by_cases ag:i<p.arrays.length
    .obtain⟨a,P⟩:∃a,p.arrays[i]? =some a:=⟨_,List.getElem?_eq_getElem ag⟩
     have aH:Below w.heap.size w wr:=aV.out.trans (b.off.below I7 fun k b2 (e:k=w.heap.size+1+1)=>I7);obtain⟨g,o,rfl,ae,an,U⟩:=(aU.out.below aH Zr).cells P;obtain⟨bg,bZ,b0⟩:=B.out.az a (List.mem_of_getElem? P);obtain⟨n,br⟩:∃n:Nat,a.size=(n:Int):=⟨a.size.toNat,I7⟩
     have bq:n<=1000:=I7
     have aK:a.size.toNat=n:=I7
     rw[br]at U;have bi:g<wr.heap.size:=I7
     have c:Below wr.heap.size wr (wr.alloc (.cells #[.string a.name,.int .i64 (n:Int)] 80)):=Zb.alloc Zr _;have u:=heap_alloc_new wr (.cells #[.string a.name,.int .i64 (n:Int)] 80);have G:=b.below c;have ah:=(c.block _ (zB S)).trans S;have ak:(wr.alloc (.cells #[.string a.name,.int .i64 (n:Int)] 80)).heap.size=wr.heap.size+1:=zA _ _;clear b aH S;go_upto_region 10 with(fail);generalize wr.alloc (.cells #[.string a.name,.int .i64 (n:Int)] 80)=W at *;obtain⟨⟨bC,bD⟩,bF⟩:=zO u;obtain⟨⟨a6,X,Y,Z,a7,a8,a9,ba,bb,bc⟩,be⟩:=zI ah;have bl:wr.heap.size<W.heap.size:=I7
     have bn:w.heap.size+1+1+1<W.heap.size:=I7
     have H:=G.below (Below.refl W.heap.size W).drew;have v:W.drew.heap.size=W.heap.size:=rfl;obtain⟨aP,bu,M,L⟩:=(H.am.of_block (w':=(W.alloc (inO (List.replicate n 0))).drew) (Below.heap_alloc W _ _ I7)).upd (t:=71) Tryz.underlying71 IX bg (.slice (some ⟨wr.heap.size+1,0,none⟩) n n);have bp:=make_ints n bq W.drew;rw[v,ak]at bp;have aL:=H.next (w':=aP) B.out bt P (by rw[aK,v,ak];exact M) (by rw[aK];exact L);have a1:=hid aL;obtain⟨⟨bK,bL,bM,bN,bO,bP,bQ,bR,bS,bT⟩,bU⟩:=zI ((Below.heap_alloc W (inO (List.replicate n 0)) _ I7).trans ah);obtain⟨⟨bV,bW⟩,bX⟩:=zO ((Below.heap_alloc W (inO (List.replicate n 0)) _ I7).trans u);have bY:(W.alloc (inO (List.replicate n 0))).heap.size=W.heap.size+1:=zA _ _;have bo:wr.heap.size<(W.alloc (inO (List.replicate n 0))).heap.size:=I7
     have b3:w.heap.size+1+1+1<(W.alloc (inO (List.replicate n 0))).heap.size:=I7
     clear H aL M L G c u ah P av aw ax ay az aA aB aC aD aE aF an U
     go_region
     all_goals
      go_wp2_with (fail);go_roundw
      case rel=>exact⟨i+1,_,I7,by go_num,a1.out⟩
      case measure=>simp[intOf];omega
    .have bj:i=p.arrays.length:=by omega
     subst bj;go_wp2_with (fail);go_ret;exact⟨rfl,_,_,_,_,ar.out,au.out,rfl⟩
open Classical in
noncomputable def lb0(H:Nat)(b:List Nat)(k:Nat):Lb:=
 if k<H then .gl else if k=H+1 then .funs else if k=H+1+1 then .arrs else if k=H+1+1+1 then .mach else if a:∃i:Nat,b[i]? =some k then .arr (Classical.choose a)else .code
theorem pw_inj{c:List Nat}(b:c.Pairwise (· < ·)){i j g:Nat}(f:c[i]? =some g)(k:c[j]? =some g):i=j:=by
 obtain⟨d,l⟩:=List.getElem?_eq_some_iff.1 f;obtain⟨e,m⟩:=List.getElem?_eq_some_iff.1 k;rw[List.pairwise_iff_getElem]at b;rcases Nat.lt_trichotomy i j with a|a|a
 .have:=b i j d e a
  omega
 .exact a
 .have:=b j i e d a
  omega
theorem lb0_old{H:Nat}{b:List Nat}{k:Nat}(a:k<H):lb0 H b k=.gl:=if_pos a
theorem lb0_funs{H:Nat}{a:List Nat}:lb0 H a (H+1)=.funs:=by unfold lb0;rw[if_neg I7,if_pos rfl]
theorem lb0_arrs{H:Nat}{a:List Nat}:lb0 H a (H+1+1)=.arrs:=by unfold lb0;rw[if_neg I7,if_neg I7,if_pos rfl]
theorem lb0_mach{H:Nat}{a:List Nat}:lb0 H a (H+1+1+1)=.mach:=by unfold lb0;rw[if_neg I7,if_neg I7,if_neg I7,if_pos rfl]
theorem lb0_row{H:Nat}{a:List Nat}(d:a.Pairwise (· < ·)){k g:Nat}(c:a[k]? =some g)(e:H+4<=g):lb0 H a g=.arr k:=by
 have b:∃i:Nat,a[i]? =some g:=⟨k,c⟩
 unfold lb0;rw[if_neg I7,if_neg I7,if_neg I7,if_neg I7,dif_pos b,pw_inj d (Classical.choose_spec b) c]
theorem lb0_code{H:Nat}{a:List Nat}{g:Nat}(c:H+4<=g)(b:¬ ∃i:Nat,a[i]? =some g):lb0 H a g=.code:=by
 unfold lb0;rw[if_neg I7,if_neg I7,if_neg I7,if_neg I7,dif_neg b]
theorem mw_start{H:Nat}{p:Pr}{E:Value}{ar:Obj}{w r wN:World}{G:ByteArray->Value}{D:List Nat}{B:List Int}{F:Nat}(aE:H=w.heap.size)(t:NmF H p E ar w p.funcs.length G r)(d:NmA H p r p.arrays.length D wN)(an:FunOk p)(ap:TreeTab H w)(al:prOK p=true)(ag:SlC H w E B)(aj:AllR64 B)(hF:F<=1000000):
 MW ⟨H,H+1+1+1,p,H+1,H+1+1,G,fun k o=>k<H/\w.heap[k]? =some o⟩ (lb0 H D) (wN.setCell ⟨H+1+1+1,9,none⟩ (.int .i64 (F:Int))) ⟨⟨p.arrays.map fun a=>List.replicate a.size.toNat 0,B,[],0,F,0,false⟩,[],[]⟩/\Below H w (wN.setCell ⟨H+1+1+1,9,none⟩ (.int .i64 (F:Int))):=by
 have aF:=t.sz;have aG:=d.off.size;have ak:=d.off.at (by omega:¬(H+1+1+1=H+1+1)) t.mb;have J:Below (H+1+1+1) wN (wN.setCell ⟨H+1+1+1,9,none⟩ (.int .i64 (F:Int))):=Zb.setCell (p:=⟨H+1+1+1,9,none⟩) Zr _;have y:∀k,k≠H+1+1+1->(wN.setCell ⟨H+1+1+1,9,none⟩ (.int .i64 (F:Int))).heap[k]? =wN.heap[k]?:=fun k c=>Below.heap_setCell wN _ _ k c
 have aH:(wN.setCell ⟨H+1+1+1,9,none⟩ (.int .i64 (F:Int))).heap.size=wN.heap.size:=Id
 have ae:=Lib.heap_setCell_same (i:=9) ak (.int .i64 (F:Int));generalize wN.setCell ⟨H+1+1+1,9,none⟩ (.int .i64 (F:Int))=W at *;have ad:Below H w wN:=t.bel.trans (d.off.below I7 fun k c (e:k=H+1+1)=>I7);have I:Below H r W:=(d.off.below I7 fun k c (e:k=H+1+1)=>I7).trans (J.mono I7);have m:Below H w W:=ad.trans (J.mono I7);have L:∀k,k<r.heap.size->k≠H+1+1->k≠H+1+1+1->W.heap[k]? =r.heap[k]?:=fun k c aa ab=>(y k ab).trans (d.off.block k c aa)
 refine⟨⟨E,.slice none 0 0,.pointer none,.slice none 0 0,?_⟩,m⟩;refine⟨(by show H<=W.heap.size;omega),fun k c=>lb0_old c,ap.below m,al,ae,lb0_mach,ag.below m Zr,⟨World.ownsRow_nil _ _ _ _,fun b m=>(by cases m)⟩,⟨World.ownsRow_nil _ _ _ _,fun b m=>(by cases m)⟩,rfl,?_,?_,fun n A=>(by cases A),aj,Nat.le_refl _,(by show 0+F<=1000000000;omega),fun k o c=>?_⟩
 .refine⟨lb0_funs,⟨_,t.fm.of_block (L _ I7 I7 I7)⟩,fun s f K=>?_⟩
  unfold jH at K;obtain⟨i,ah,ai⟩:=Option.bind_eq_some_iff.1 K;obtain⟨g,v,af,_⟩:=yq ah
  have e:g=f:=by
   have:p.funcs[i]? =some f:=ai;rw[v]at this;injection this
  subst e;obtain⟨aB,aA,P,Q,T,Y,C,q4,au⟩:=t.fs i g (List.getElem?_eq_some_iff.1 v).1 v;refine⟨aB,aA,by rw[<-af];exact P,Q.below I Zr,T,Y,C,q4,fun ao=>?_⟩;obtain⟨b,av,aw,ax,ay⟩:=au ao;have c:=L b ax I7 I7;refine⟨b,av,lb0_code aw fun⟨k,N⟩=>?_,I7,fun j x aq=>?_⟩
  .have M:=(List.getElem?_eq_some_iff.1 N).1
   obtain⟨a,q⟩:∃a,p.arrays[k]? =some a:=⟨_,List.getElem?_eq_getElem (by rw[d.rl]at M;exact M)⟩
   have:=(d.row k b a N q).1;omega
  .obtain⟨U,V,X,Z,z,aC,R,S,aD⟩:=ay j x aq
   have u:∀o,W.cell? ⟨b,o,none⟩=r.cell? ⟨b,o,none⟩:=fun o=>World.cell?_of_block c
   exact⟨U,V,X,Z,z.below I Zr,(u _).trans aC,(u _).trans R,(u _).trans S,(u _).trans aD⟩
 .refine⟨D,lb0_arrs,by rw[List.length_map],by rw[d.rl,List.length_map],⟨_,(d.am.of_block (y _ I7)).congr fun s=>?_⟩,fun k g l c O=>?_⟩
  .unfold arrF arrN
   rw[List.take_length];cases hidx:zb p.arrays s with
   | none=>rfl
   | some k=>
     obtain⟨a,q,_⟩:=idxA_lt hidx;simp[List.getD_eq_getElem?_getD,List.getElem?_map,q]
  .rw[List.getElem?_map]at O
   obtain⟨a,q,rfl⟩:=Option.map_eq_some_iff.1 O;obtain⟨P,Q,C⟩:=d.row k g a c q;obtain⟨_,R,S⟩:=an.az a (List.mem_of_getElem? q);refine⟨lb0_row d.ord c I7,(y g I7).trans C,fun n A=>?_,by rw[List.length_replicate];omega⟩;rw[List.eq_of_mem_replicate A];exact⟨I8,I8⟩
 .exact⟨lb0_old c.1,(m.block k c.1).trans c.2⟩
end Go.Proofs.YthcmenajdcbnnaaGreatDoor
