import Derived.Test.YthcmenajdcbnnaaGreatDoorAtTreeRefE
import Derived.Test.YthcmenajdcbnnaaGreatDoorAtEvMb
set_option linter.unusedSimpArgs false
set_option linter.unusedVariables false
set_option maxRecDepth 100000
set_option maxHeartbeats 99000000
/- The document's comparison of two runs. -/
namespace Go.Proofs.YthcmenajdcbnnaaGreatDoor
open Lib (hid)
open Go.RowKit
theorem rundN{B:Nat}{a w:World}(h:Below B a w)(n:Nat):Below B a (w.drewN n):=h.trans ⟨rfl,rfl,rfl,Nat.le_refl _,fun _ _=>rfl⟩
theorem same_step{a b:List Int}{k:Nat}{x c:Int}(d:a.take k=b.take k)(f:a[k]? =some x)(g:b[k]? =some c)(e:x=c):a.take (k+1)=b.take (k+1):=by
 rw[List.take_add_one,List.take_add_one,d,f,g,e]
theorem same_not{a b:List Int}{k:Nat}{x d:Int}(c:a[k]? =some x)(g:b[k]? =some d)(e:x≠d):decide (a=b)=false:=by
 refine decide_eq_false fun f=>e ?_
 rw[f,g]at c;injection c with c;exact c.symm
theorem same_all{a b:List Int}(d:a.length=b.length)(c:a.take a.length=b.take a.length):decide (a=b)=true:=by
 rw[List.take_length,d,List.take_length]at c;exact decide_eq_true c
theorem rout_any(B:Nat)(a b:List Int)(A C:Value)(z:Bool)(y:decide (a=b)=z)(w:World)(P:B<=w.heap.size)(n:SlI B w A a)(p:SlI B w C b):
 Calls Tryz.prog 30 #[A,C] w fun e w'=>e=.returned (.bool z)/\Below w.heap.size w w':=by
 obtain⟨M,c,rfl,W⟩:=n.form;obtain⟨N,O,rfl,X⟩:=p.form;have D:=hid n;have E:=hid p;have l:=hid y;clear n p y;go_enter Tryz.func30,Tryz.ntmps30;by_cases i:a.length=b.length
 .have j:=hid i
  have K:((a.length:Int) != (b.length:Int))=false:=by simp[i]
  clear i;go_wp2_with (fail)
  go_loopw [5] (fun iv wr=>∃k m:Nat,k<=a.length/\iv=.int .i64 (k:Int)/\a.take k=b.take k/\wr=w.drewN m) (fun iv _=>a.length-(intOf iv).toNat)
  case atStart=>exact⟨0,0,Nat.zero_le _,rfl,rfl,rfl⟩
  case round=>
   obtain⟨k,m,U,rfl,v,rfl⟩:=hrel;have s:=hid v;clear v;by_cases L:k<a.length
   .obtain⟨x,q⟩:∃e,a[k]? =some e:=⟨_,List.getElem?_eq_getElem L⟩
    obtain⟨f,r⟩:∃e,b[k]? =some e:=⟨_,List.getElem?_eq_getElem (by have:=j.out;omega)⟩
    obtain⟨g,o,rfl,Q,Z⟩:=D.out.cells q;obtain⟨F,Y,rfl,R,aa⟩:=E.out.cells r;have V:k<b.length:=by have:=j.out;omega
    have S:g<w.heap.size:=I7
    have T:F<w.heap.size:=I7
    have t:=hid q;have u:=hid r;clear q r;by_cases d:x=f
    .have H:(x == f)=true:=by simp[d]
     have I:(x != f)=false:=by simp[d]
     go_wp2_with (fail)
     go_quiet (fail)
     go_wp2_with (fail);go_roundw
     case rel=>exact⟨k+1,_,I7,by go_num,same_step s.out t.out u.out d,rfl⟩
     case measure=>simp[intOf];omega
    .have H:(x == f)=false:=by simp[d]
     have I:(x != f)=true:=by simp[d]
     go_wp2_with (fail)
     go_quiet (fail)
     go_wp2_with (fail);go_ret;exact⟨zC (by rw[<-l.out,same_not t.out u.out d]),rundN (rundN Zb _) _⟩
   .have J:k=a.length:=by omega
    subst J;go_wp2_with (fail);go_ret;exact⟨zC (by rw[<-l.out,same_all j.out s.out]),rundN Zb _⟩
 .have K:((a.length:Int) != (b.length:Int))=true:=by simp;omega
  go_wp2_with (fail);go_ret;exact⟨zC (by rw[<-l.out,decide_eq_false (fun G=>i (by rw[G]))]),Below.refl _ _⟩
theorem own_capV{w:World}{B:Nat}{e:TypeId}{j n:Nat}{v:Value}{k:List Value}(i:w.ownsRow B e j v n k):∀b m c,v=.slice b m c->m<=c:=by
 rintro b m c rfl;rcases i.2 with⟨a,p⟩|⟨g,l,o,a,_,_,q,_⟩
 .injection a with _ d f
  omega
 .injection a with _ d f
  omega
def RunV(B:Nat)(w:World)(v:Value)(r:Int × Int × List Int × Nat × Nat):Prop:=
 ∃vo,v=.agg #[.int .i64 r.1,.int .i64 r.2.1,vo,.int .i64 (r.2.2.2.1:Int),.int .i64 (r.2.2.2.2:Int)]/\SlI B w vo r.2.2.1/\∀A n c,vo=.slice A n c->n<=c
end Go.Proofs.YthcmenajdcbnnaaGreatDoor
namespace Go.Proofs.YthcmenajdcbnnaaGreatDoor
open Lib (hid)
open Go.RowKit Go.Maps
theorem evAt_snoc:∀(vs:Vals) (x:ByteArray × Int) (s:ByteArray),kB (vs++[x]) s=if x.1=s then some vs.length else kB vs s
 | [],x,s=>by
   show(match kB [] s with|some k=>some (k+1)|none=>if x.1=s then some 0 else none)=_;rfl
 | y::r,x,s=>by
   rw[List.cons_append,kB,evAt_snoc r x s];by_cases h:x.1=s
   .simp only[if_pos h]
    rfl
   .simp only[if_neg h]
    rfl
theorem xb{vs:Vals}{s:ByteArray}{k:Nat}(h:kB vs s=some k):k<vs.length:=evAt_lt h
theorem env_snoc(vs:Vals)(locs:List Nat)(b:locs.length=vs.length)(x:ByteArray × Int)(l:Nat)(s:ByteArray):envF (vs++[x]) (locs++[l]) s=upV (envF vs locs) x.1 (.pointer (some ⟨l,0,none⟩)) s:=by
 unfold envF upV;rw[evAt_snoc];by_cases a:x.1=s
 .rw[if_pos a,if_pos a.symm]
  dsimp only;rw[<-b,List.getElem?_append_right Zr,Nat.sub_self];rfl
 .rw[if_neg a,if_neg (fun e=>a e.symm)]
  dsimp only;cases he:kB vs s with
  | none=>rfl
  | some k=>
    dsimp only;rw[List.getElem?_append_left (by have:=xb he;omega)]
theorem env_take{vs:Vals}{locs:List Nat}{n:Nat}(s:ByteArray)(b:n<=vs.length):envF (vs.take n) (locs.take n) s=envF (vs.take n) locs s:=by
 unfold envF;cases he:kB (vs.take n) s with
 | none=>rfl
 | some k=>
   have a:=xb he;rw[List.length_take]at a;dsimp only;rw[List.getElem?_take,if_pos I7]
section
variable {G:Gm} {τ τ':Nat->Lb} {w w':World} {m:Vm} {vi vv pa vo:Value}
theorem MwI.relab(a:MwI G τ w m vi vv pa vo)(e:Below w.heap.size w w')(c:Ext τ τ' w):MwI G τ' w' m vi vv pa vo:=by
 have b:OffX (fun k=>XN (τ k)) w w':=OffX.of_below _ e;have f:=e.mono a.hB;exact(a.step (X:=XN) (m':=m) b c id ⟨id,id⟩ ((e.block _ a.lt).trans a.box) (a.inp.below f Zr) (a.val.keep (X:=XN) b c id) (a.out.keep (X:=XN) b c id) (a.frs.keep (X:=XN) b c f ⟨id,fun d _=>⟨id,id,fun i=>⟨id,id⟩⟩⟩ Zr) (a.arr.keep (X:=XN) b c ⟨id,fun _=>id⟩) a.nv a.ni a.no a.lim).1
theorem MwI.called(o:MwI G τ w m vi vv pa vo){wr:World}{q l:List Int}{a:Option Addr}{n c mp:Nat}(ad:vv=.slice a n c)(z:m.v=q++l)(t:Below w.heap.size w wr)(R:Ext τ τ' w){d:Fu}{name:ByteArray}(T:jH G.p name=some d){ah g:Value}(U:G.fv name=.agg #[ah,g])(am:l.length=d.params.length)
 {locs:List Nat} (W:locs.length=l.length) (y:MapV wr mp l.length (.pointer none) (envF (evPar d l) locs)) (Y:τ' mp=.vmap m.cs.length 0) (Z:w.heap.size<=mp) (Q:∀i b x,locs[i]? =some b->l[i]? =some x->w.heap.size<=b/\τ' b=.cel m.cs.length i/\wr.heap[b]? =some (.cells #[.int .i64 x] 3)):
 (∃τ,MW G τ (((wr.setCell ⟨G.b,3,none⟩ (.slice a q.length c)).alloc (caO g 0 mp (.slice none 0 0) pa)).setCell ⟨G.b,4,none⟩ (.pointer (some ⟨wr.heap.size,0,none⟩))) ⟨m.s,q,⟨genF d,0,evPar d l,[]⟩::m.cs⟩)/\
 Below G.B w (((wr.setCell ⟨G.b,3,none⟩ (.slice a q.length c)).alloc (caO g 0 mp (.slice none 0 0) pa)).setCell ⟨G.b,4,none⟩ (.pointer (some ⟨wr.heap.size,0,none⟩))):=by
 have an:=o.lt;have f:=o.relab t R;have ak:=t.size;have r:=f.val;rw[ad,z]at r;obtain⟨ai,aj,ae⟩:=r.form;injection ae with J K L;subst J L;rw[K]at r;obtain⟨C,N⟩:=f.cell1 (m':=⟨m.s,q,m.cs⟩) 3 (.slice a q.length c) (Lib.heap_setCell_same f.box _) f.inp r.cut f.out f.frs rfl (fun n aa=>f.nv n (by rw[z];exact List.mem_append_left _ aa)) f.ni f.no f.lim;have A:(wr.setCell ⟨G.b,3,none⟩ (.slice a q.length c)).heap.size=wr.heap.size:=Id
 have D:Below (wr.setCell ⟨G.b,3,none⟩ (.slice a q.length c)).heap.size (wr.setCell ⟨G.b,3,none⟩ (.slice a q.length c)) ((wr.setCell ⟨G.b,3,none⟩ (.slice a q.length c)).alloc (caO g 0 mp (.slice none 0 0) pa)):=Zb.alloc Zr _;have e:=C.relab D (Ext.lbl τ' _ (.frm m.cs.length) (by rw[A];exact Nat.le_refl wr.heap.size));have ab:((wr.setCell ⟨G.b,3,none⟩ (.slice a q.length c)).alloc (caO g 0 mp (.slice none 0 0) pa)).heap[wr.heap.size]? =some (caO g 0 mp (.slice none 0 0) pa):=by have:=heap_alloc_new (wr.setCell ⟨G.b,3,none⟩ (.slice a q.length c)) (caO g 0 mp (.slice none 0 0) pa);rw[A]at this;exact this
 have E:∀k,w.heap.size<=k->k<wr.heap.size->((wr.setCell ⟨G.b,3,none⟩ (.slice a q.length c)).alloc (caO g 0 mp (.slice none 0 0) pa)).heap[k]? =wr.heap[k]?:=fun k al V=>(Below.heap_alloc _ _ k (by rw[A];exact V)).trans (Below.heap_setCell wr _ _ k (by show k≠G.b;omega))
 obtain⟨_,_,hF⟩:=e.fun';obtain⟨ap,ao,f1,_,f3⟩:=hF name d T;rw[U]at f1;simp only[Value.agg.injEq,Array.mk.injEq,List.cons.injEq,and_true]at f1;obtain⟨rfl,rfl⟩:=f1;have F:(evPar d l).length=l.length:=by unfold evPar;rw[List.length_zip,List.length_map];omega
 have H:∀(i:Nat) (x:ByteArray × Int),(evPar d l)[i]? =some x->l[i]? =some x.2:=fun i x j=>by
  unfold evPar at j;rw[List.getElem?_zip_eq_some]at j;exact j.2
 have S:Frs G.B (lbl τ' wr.heap.size (.frm m.cs.length)) ((wr.setCell ⟨G.b,3,none⟩ (.slice a q.length c)).alloc (caO g 0 mp (.slice none 0 0) pa)) (.pointer (some ⟨wr.heap.size,0,none⟩)) (⟨genF d,0,evPar d l,[]⟩::m.cs):=by
  refine⟨wr.heap.size,pa,g,mp,.slice none 0 0,locs,[],rfl,⟨ab,uD _ _ _,f3,by rw[W];exact F.symm,fun i b x u j=>?_,⟨?_,?_⟩,rfl,World.ownsRow_nil _ _ _ _,fun b u=>(by cases u),fun i m k X=>(by cases X),Ia⟩,e.frs⟩
  .obtain⟨af,ag,I⟩:=Q i b x.2 u (H i x j)
   have P:=zB I;exact⟨(uE τ' _ I7).trans ag,(E b af P).trans I,o.nv x.2 (by rw[z];exact List.mem_append_right _ (List.mem_of_getElem? (H i x j)))⟩
  .exact(uE τ' _ (by have:=y.lt;omega)).trans Y
  .rw[F]
   exact y.of_block (E mp Z y.lt)
 obtain⟨M,O⟩:=e.cell1 (m':=⟨m.s,q,⟨genF d,0,evPar d l,[]⟩::m.cs⟩) 4 (.pointer (some ⟨wr.heap.size,0,none⟩)) (Lib.heap_setCell_same e.box _) e.inp e.val e.out S rfl e.nv e.ni e.no e.lim;exact⟨⟨_,_,_,_,_,M⟩,(((t.mono o.hB).trans N).trans (D.mono C.hB)).trans O⟩
end
theorem zero_fn(w:World):(zeroValue 120).run Tryz.prog w=.ok (.agg #[.slice none 0 0,.slice none 0 0]) w:=by kernel_rfl
abbrev fnO(b a:Value):Obj:=.cells #[b,a] 120
theorem fu_few{p:Pr}(a:prOK p=true){f:Fu}(d:f∈p.funcs):f.params.length<=8/\∀x∈f.params,x.name.size<=maxLen:=by
 refine⟨((few_of a) f d).1,fun x e=>?_⟩;unfold prOK at a;rw[Bool.and_eq_true,List.all_eq_true,List.all_eq_true]at a;have b:=a.2 f d;unfold yF at b;simp only[Bool.and_eq_true,decide_eq_true_eq,List.all_eq_true]at b;have c:=b.1.2 x e;unfold vg at c;simp only[Bool.and_eq_true]at c;exact yh c.1
theorem Frs.ptr{B:Nat}{τ:Nat->Lb}{w:World}{v:Value}{l:List Fr}(b:Frs B τ w v l):∃p,v=.pointer p:=by
 cases l with
 | nil=>exact⟨_,b⟩
 | cons c r=>
   obtain⟨a,pa,f,mp,vo,locs,e,d,_⟩:=b;exact⟨_,d⟩
structure CallIn (w wr:World) (τ τr:Nat->Lb) (d:Nat) (l:List Int) (fu:Fu) (mp j:Nat) (locs:List Nat):Prop where
 len:locs.length=j
 ext:Ext τ τr w
 map:MapV wr mp j (.pointer none) (envF ((evPar fu l).take j) locs)
 cell:∀i b x,locs[i]? =some b->l[i]? =some x->w.heap.size<=b/\τr b=.cel d i/\wr.heap[b]? =some (.cells #[.int .i64 x] 3)
 lab:τr mp=.vmap d 0
theorem CallIn.next{w wr W n:World}{τ τr:Nat->Lb}{d:Nat}{l:List Int}{c:Fu}{mp j:Nat}{locs:List Nat}(f:CallIn w wr τ τr d l c mp j locs)(N:w.heap.size<=wr.heap.size)(r:Below wr.heap.size wr W){x:Pa}{a:Int}(t:c.params[j]? =some x)(o:l[j]? =some a)
 (B:MapV n mp (j+1) (.pointer none) (upV (envF ((evPar c l).take j) locs) x.name (.pointer (some ⟨W.heap.size,0,none⟩)))) (D:n.heap[W.heap.size]? =some (.cells #[.int .i64 a] 3)) (E:OffX (fun k=>k=mp) W n):
 CallIn w n τ (lbl τr W.heap.size (.cel d j)) d l c mp (j+1) (locs++[W.heap.size]):=by
 have O:=r.size;have M:=f.map.lt
 have F:(evPar c l).take (j+1)=(evPar c l).take j++[(x.name,a)]:=by
  have:(evPar c l)[j]? =some (x.name,a):=by
   unfold evPar;rw[List.getElem?_zip_eq_some,List.getElem?_map,t];exact⟨rfl,o⟩
  rw[List.take_add_one,this];rfl
 have L:j<(evPar c l).length:=by
  unfold evPar;have J:=(List.getElem?_eq_some_iff.1 t).1;have K:=(List.getElem?_eq_some_iff.1 o).1;rw[List.length_zip,List.length_map];omega
 have G:((evPar c l).take j).length=j:=IH
 refine⟨by rw[List.length_append,f.len];rfl,fun k A=>(uE τr _ I7).trans (f.ext k A),B.congr fun s=>by rw[F];exact env_snoc _ _ (by rw[f.len,G]) (x.name,a) _ s,fun i b I g m=>?_,(uE τr _ I7).trans f.lab⟩;rcases Nat.lt_or_ge i locs.length with p|p
 .rw[List.getElem?_append_left p]at g
  obtain⟨H,q,u⟩:=f.cell i b I g m;have y:=zB u;have C:b≠mp:=fun e=>by rw[e,f.lab]at q;cases q
  exact⟨H,(uE τr _ I7).trans q,(E.block b I7 C).trans ((r.block b y).trans u)⟩
 .rw[List.getElem?_append_right p]at g
  have v:i-locs.length=0:=by
   have:=(List.getElem?_eq_some_iff.1 g).1;simp at this;omega
  rw[v]at g;simp at g;subst g;have z:i=j:=by have:=f.len;omega
  subst z;rw[o]at m;injection m with m;subst m;exact⟨I7,uD _ _ _,D⟩
theorem mcall_any{G:Gm}{τ:Nat->Lb}{w:World}{m:Vm}(bb:MW G τ w m){q l:List Int}(Y:m.v=q++l)(b2:q.length<=2000000000){d:Fu}{name:ByteArray}(J:jH G.p name=some d)(a8:l.length=d.params.length)(bd:name.size<=maxLen):
 Calls Tryz.prog 69 #[.pointer (some ⟨G.b,0,none⟩),.string name] w (uX G w ⟨m.s,q,⟨genF d,0,evPar d l,[]⟩::m.cs⟩ (.tuple #[])):=by
 obtain⟨vi,vv,pa,vo,u⟩:=bb;obtain⟨ca,rfl⟩:=u.frs.ptr;obtain⟨_,⟨b7,ao⟩,hF⟩:=u.fun';obtain⟨cd,cc,U,X,a3⟩:=hF name d J;have a9:=ao.look (t:=70) Tryz.underlying70 (zero_fn w) bd;rw[U]at a9;obtain⟨r,o,bh,b0⟩:=X.form;subst bh;obtain⟨aw,c,L⟩:=u.val.form;have al:m.v.length=q.length+l.length:=by rw[Y,List.length_append]
 rw[al]at L;obtain⟨bJ,ar⟩:=fu_few u.pok (uq J);obtain⟨⟨aM,aN,aO,Q,aP,aQ,aR,aS,aT,aU⟩,aV⟩:=zI u.box;have am:=u.lt;rw[L]at Q;have b4:IntKind.i64.wrap (((q.length+l.length:Nat):Int)-(d.params.length:Int))=(q.length:Int):=Ie
 have H:=hid u;have aH:=hid X;have F:=hid L;have P:=hid Y;have aB:=hid J;have aC:=hid U;have E:=hid a8;have aF:=hid ar;obtain⟨f,n,bg,_⟩:=a3;subst bg;clear u X L Y J U ar ao hF al;have bZ:=@run_makeMap Tryz.prog;have bj:=heap_alloc_new w (fnO (.slice r d.params.length o) (.slice f (genF d).length n));have N:(w.alloc (fnO (.slice r d.params.length o) (.slice f (genF d).length n))).heap.size=w.heap.size+1:=zA _ _;have ae:Below w.heap.size w ((w.alloc (fnO (.slice r d.params.length o) (.slice f (genF d).length n))).alloc (.map #[] 0)).drew:=(((Below.refl w.heap.size w).alloc Zr _).alloc (by rw[N];omega) _).drew;have ad:MapV ((w.alloc (fnO (.slice r d.params.length o) (.slice f (genF d).length n))).alloc (.map #[] 0)).drew (w.heap.size+1) 0 (.pointer none) (envF [] []):=(N ▸ emap_made (w.alloc (fnO (.slice r d.params.length o) (.slice f (genF d).length n))) (.pointer none):MapV ((w.alloc (fnO (.slice r d.params.length o) (.slice f (genF d).length n))).alloc (.map #[] 0)) (w.heap.size+1) 0 (.pointer none) (envF [] [])).of_block rfl;have au:((w.alloc (fnO (.slice r d.params.length o) (.slice f (genF d).length n))).alloc (.map #[] 0)).drew.heap[w.heap.size]? =some (fnO (.slice r d.params.length o) (.slice f (genF d).length n)):=(Below.heap_alloc _ _ _ (by rw[N];omega)).trans bj
 have Z:((w.alloc (fnO (.slice r d.params.length o) (.slice f (genF d).length n))).alloc (.map #[] 0)).drew.heap.size=w.heap.size+2:=by
  show((w.alloc (fnO (.slice r d.params.length o) (.slice f (genF d).length n))).alloc (.map #[] 0)).heap.size=_;rw[zA,N]
 have ay:=hid ae;have aD:=hid ad;have aJ:=hid au;clear ae ad au;go_enter Tryz.func69,Tryz.ntmps69;go_wp2_with (fail)
 go_region
 go_wp2_with (fail);generalize((w.alloc (fnO (.slice r d.params.length o) (.slice f (genF d).length n))).alloc (.map #[] 0)).drew=W1 at *;have b5:=Nat.le_of_eq Z;have b6:=Nat.le_of_eq Z.symm;clear Z
 go_loopw [28] (fun iv wr=>∃(j:Nat) (locs:List Nat) (τr:Nat->Lb),j<=l.length/\iv=.int .i64 (j:Int)/\Below w.heap.size w wr/\CallIn w wr τ τr m.cs.length l d (w.heap.size+1) j locs/\wr.heap[w.heap.size]? =some (fnO (.slice r d.params.length o) (.slice f (genF d).length n))) (fun iv _=>l.length-(intOf iv).toNat)
 case atStart=>exact⟨0,[],lbl τ (w.heap.size+1) (.vmap m.cs.length 0),Nat.zero_le _,rfl,ay.out,⟨rfl,Ext.lbl τ w _ I7,aD.out,(fun i b x a0=>by cases a0),uD _ _ _⟩,aJ.out⟩
 case round=>
  obtain⟨j,locs,τr,bN,rfl,ag,aj,M⟩:=hrel;have D:=hid ag;have y:=hid aj;have aK:=hid M;have bi:w.heap.size<wr.heap.size:=zB M;obtain⟨⟨b8,b9⟩,cb⟩:=zO M;clear ag aj M;by_cases ba:j<l.length
  .obtain⟨x,C⟩:∃x,d.params[j]? =some x:=⟨_,List.getElem?_eq_getElem (by have:=E.out;omega)⟩
   obtain⟨a,S⟩:∃a,l[j]? =some a:=⟨_,List.getElem?_eq_getElem ba⟩
   have a2:=D.out.mono H.out.hB;obtain⟨ab,op,rfl,bL,ce,cf⟩:=(aH.out.below a2 Zr).cells C;have bM:ab<wr.heap.size:=by have:=H.out.hB;omega
   have bT:j<d.params.length:=(List.getElem?_eq_some_iff.1 C).1;have A:Below wr.heap.size wr (wr.alloc (.cells #[.string x.name,.int .i64 x.type] 100)):=Zb.alloc Zr _;have b1:(wr.alloc (.cells #[.string x.name,.int .i64 x.type] 100)).heap.size=wr.heap.size+1:=zA _ _;have V:(wr.alloc (.cells #[.string x.name,.int .i64 x.type] 100)).heap[wr.heap.size]? =some (.cells #[.string x.name,.int .i64 x.type] 100):=heap_alloc_new wr _;go_upto_region 6 with(fail);generalize wr.alloc (.cells #[.string x.name,.int .i64 x.type] 100)=W at *;have I:Below w.heap.size w W:=D.out.trans (A.mono I7)
   obtain⟨aa,rfl,a5,bf⟩:∃g,aw=some ⟨g,0,none⟩/\g<w.heap.size/\w.cell? ⟨g,q.length+j,none⟩=some (.int .i64 a):=by
    have z:=H.out.val.1;rw[F.out]at z;obtain⟨g,bH,R,_,aX,_,aY,_⟩:=yS z (by rw[P.out,List.length_append];omega);injection R with R _ _;refine⟨g,R,aX,aY _ _ ?_⟩;rw[P.out,List.map_append,List.getElem?_append_right Ia,List.length_map,show q.length+j-q.length=j by omega,List.getElem?_map,S];rfl
   have bl:=(I.cell (p:=⟨G.b,3,none⟩) am).trans Q;have bm:=(I.cell (p:=⟨aa,q.length+j,none⟩) a5).trans bf;obtain⟨⟨br,bs⟩,bt⟩:=zO V;have bI:=zB V;have bX:G.b<W.heap.size:=I7
   have bK:aa<W.heap.size:=I7
   have bQ:j<q.length+d.params.length:=I7
   have bS:q.length+j<q.length+d.params.length:=I7
   have bR:(q.length:Int)+(j:Int)<(q.length:Int)+(d.params.length:Int):=I7
   have b3:IntKind.i64.wrap ((q.length:Int)+(j:Int))=((q.length+j:Nat):Int):=Ie
   have bO:(0 :Int)<=(q.length:Int)+(j:Int):=I7
   have bU:((q.length:Int)+(j:Int)).toNat=q.length+j:=I7
   have bP:¬((q.length:Int)+(j:Int)<0):=I7
   go_still_tail 12,(by kernel_rfl)
   repeat still_step
   change wpList _ _ _ _ _ W.drew;have ap:MapV W.drew (w.heap.size+1) j (.pointer none) (envF ((evPar d l).take j) locs):=y.out.map.of_block (A.block _ y.out.map.lt);have aE:=hid ap;have aG:=hid A;have az:=hid I;have bk:x.name.size<=maxLen:=aF.out x (List.mem_of_getElem? C);have aI:=hid C;have ax:=hid S;have aL:=hid ((A.block _ bi).trans aK.out);have a6:j<=2000000000:=I7
   clear A I V C S br bs bt bl bm ap
   go_wp2_with (go_at_call 92;(with_reducible refine(mdecl_any aE.out a6 x.name bk a).mono ?_);rintro e w4 ⟨rfl,an,aq,K,be⟩
                have av:w4.heap[w.heap.size]? =some (fnO (.slice (some ⟨ab,op,none⟩) d.params.length o) (.slice f (genF d).length n)):=(K.block _ (show w.heap.size<W.heap.size by omega) (fun(e:w.heap.size=w.heap.size+1)=>I7)).trans aL.out;have af:Below w.heap.size w w4:=az.out.trans (((OffX.drew (fun k=>k=w.heap.size+1) W).trans K fun _ _ u=>u).below (B:=w.heap.size) (show w.heap.size<=W.heap.size by omega) fun k bV (e:k=w.heap.size+1)=>I7);have ak:=y.out.next I7 aG.out aI.out ax.out an aq ((OffX.drew (fun k=>k=w.heap.size+1) W).trans K fun _ _ u=>u);have O:=hid (And.intro af (And.intro ak av))
                clear an aq K be av af ak)
   go_roundw
   case rel=>exact⟨j+1,_,_,I7,by go_num,O.out.1,O.out.2.1,O.out.2.2⟩
   case measure=>simp[intOf];omega
  .have a7:j=l.length:=by omega
   subst a7;have bc:(evPar d l).length=l.length:=by unfold evPar;rw[List.length_zip,List.length_map];have:=E.out;omega
   have T:=(D.out.block _ am).trans H.out.box;rw[F.out]at T;have a4:MapV wr (w.heap.size+1) l.length (.pointer none) (envF (evPar d l) locs):=y.out.map.congr fun s=>by rw[List.take_of_length_le (Nat.le_of_eq bc)]
   have ai:=H.out.called (τ':=τr) (mp:=w.heap.size+1) (locs:=locs) (wr:=wr) F.out P.out D.out y.out.ext aB.out aC.out E.out y.out.len a4 y.out.lab (Nat.le_succ _) y.out.cell;have aA:=hid ai;obtain⟨⟨bu,bv,bw,aW,bx,bz,bA,bC,bD,bF⟩,bG⟩:=zI T;rw[E.out]at aW;have bY:G.b<wr.heap.size:=I7
   have bW:q.length<=c:=by
    have z:=H.out.val.1;rw[F.out]at z;have:=own_capV z _ _ _ rfl;omega
   clear T ai aM aN aO Q aP aQ aR aS aT aU aV;go_wp2_with (fail)
   go_region
   all_goals go_wp2_with (fail)
   all_goals go_end0
   all_goals
    have ah:=aA.out;rw[World.setCell_alloc_past _ _ _ _ (by show G.b<(wr.setCell _ _).heap.size;simp[World.setCell];omega)]at ah;obtain⟨⟨τ9,bn,bo,bp,bq,aZ⟩,a1⟩:=ah;exact⟨rfl,⟨τ9,bn,bo,bp,bq,aZ.drew⟩,a1.drew⟩
section
variable {G:Gm} {τ:Nat->Lb} {w:World} {m:Vm} {vi vv pa vo:Value}
theorem MwI.pay(a:MwI G τ w m vi vv pa vo)(c:m.s.cost+1+m.s.fuel<=1000000000):
 MwI G τ (w.setCell ⟨G.b,8,none⟩ (.int .i64 ((m.s.cost:Int)+1))) ⟨zT m.s,m.v,m.cs⟩ vi vv pa vo/\Below G.B w (w.setCell ⟨G.b,8,none⟩ (.int .i64 ((m.s.cost:Int)+1))):=
 a.cell1 (m':=⟨zT m.s,m.v,m.cs⟩) 8 (.int .i64 ((m.s.cost:Int)+1)) (Lib.heap_setCell_same a.box _) a.inp a.val a.out a.frs rfl a.nv a.ni (Nat.le_succ_of_le a.no) c
theorem PtE.cells{B:Nat}{v:Value}{k op n:Int}{name:ByteArray}{args:List Ex}(d:PtE B w v (.mk k op n name args)):
 ∃g o,v=.pointer (some ⟨g,o,none⟩)/\g<B/\w.cell? ⟨g,o,none⟩=some (.int .i64 k)/\w.cell? ⟨g,o+1,none⟩=some (.int .i64 op)/\w.cell? ⟨g,o+2,none⟩=some (.int .i64 n)/\w.cell? ⟨g,o+3,none⟩=some (.string name)/\i64R n/\∃c,w.cell? ⟨g,o+4,none⟩=some c/\xL B w c args:=by
 obtain⟨g,o,rfl,b⟩:=d;rw[RdE]at b;obtain⟨a,e,f,i,l,v,j,m⟩:=b;exact⟨g,o,rfl,a.1,a.2,e.2,f.2,i.2,l,v,j.2,m⟩
theorem PtS.cells{B:Nat}{v:Value}{k c:Int}{name:ByteArray}{args:List Ex}{thn els:List St}(i:PtS B w v (.mk k c name args thn els)):
 ∃g o,v=.pointer (some ⟨g,o,none⟩)/\g<B/\w.cell? ⟨g,o,none⟩=some (.int .i64 k)/\w.cell? ⟨g,o+1,none⟩=some (.int .i64 c)/\w.cell? ⟨g,o+2,none⟩=some (.string name)/\(∃d,w.cell? ⟨g,o+3,none⟩=some d/\xL B w d args)/\(∃f,w.cell? ⟨g,o+4,none⟩=some f/\SlS B w f thn)/\∃e,w.cell? ⟨g,o+5,none⟩=some e/\SlS B w e els:=by
 obtain⟨g,o,rfl,b⟩:=i;rw[RdS]at b;obtain⟨a,j,l,⟨t,m,q⟩,⟨u,n,r⟩,x,p,s⟩:=b;exact⟨g,o,rfl,a.1,a.2,j.2,l.2,⟨t,m.2,q⟩,⟨u,n.2,r⟩,x,p.2,s⟩
end
theorem mapply_lit{G:Gm}{τ:Nat->Lb}{w:World}{m:Vm}(f:MW G τ w m){v:Value}{k op n:Int}{name:ByteArray}{args:List Ex}(d:PtE G.B w v (.mk k op n name args))(t:k=1\/k=2)(u:m.v.length<=2000000000):
 Calls Tryz.prog 94 #[.pointer (some ⟨G.b,0,none⟩),v] w (uX G w ⟨m.s,m.v++[n],m.cs⟩ (.tuple #[])):=by
 obtain⟨g,o,rfl,D,x,y,z,A,j,_⟩:=d.cells;have p:=hid f;have r:=hid j;obtain⟨vi,vv,pa,vo,a⟩:=f;have F:=a.lt;have C:=a.hB;have E:g<w.heap.size:=I7
 clear a d j;rcases t with rfl|rfl
 all_goals
  go_enter Tryz.func94,Tryz.ntmps94
  go_wp2_with (first
   | (go_at_call 97;(with_reducible refine(xa p.out n r.out u).mono ?_);rintro e H ⟨rfl,i,c⟩
      have q:=hid i;have l:=hid c
      clear i c))
  go_end0
  exact⟨rfl,q.out,l.out⟩
theorem zero_ptr(w:World):(zeroValue 177).run Tryz.prog w=.ok (.pointer none) w:=by kernel_rfl
theorem FrI.var{B:Nat}{τ:Nat->Lb}{w:World}{d a:Nat}{pa:Value}{c:Fr}{p:Value}{mp:Nat}{vo:Value}{locs l:List Nat}(i:FrI B τ w d a pa c p mp vo locs l){name:ByteArray}{j:Nat}(f:kB c.vs name=some j):
 ∃b x,locs[j]? =some b/\c.vs[j]? =some x/\envF c.vs locs name=.pointer (some ⟨b,0,none⟩)/\τ b=.cel d j/\w.heap[b]? =some (.cells #[.int .i64 x.2] 3)/\i64R x.2/\evGet c.vs name=x.2:=by
 have k:=xb f;obtain⟨b,e⟩:∃b,locs[j]? =some b:=⟨_,List.getElem?_eq_getElem (by rw[i.ll];exact k)⟩
 obtain⟨x,g⟩:∃x,c.vs[j]? =some x:=⟨_,List.getElem?_eq_getElem k⟩
 obtain⟨m,n,o⟩:=i.cell j b x e g;refine⟨b,x,e,g,?_,m,n,o,?_⟩
 .unfold envF
  rw[f];dsimp only;rw[e]
 .unfold evGet
  rw[f];dsimp only;rw[g];rfl
theorem mapply_var{G:Gm}{τ:Nat->Lb}{w:World}{m:Vm}(A:MW G τ w m){v:Value}{op n:Int}{name:ByteArray}{args:List Ex}(q:PtE G.B w v (.mk 3 op n name args)){c:Fr}{r:List Fr}(p:m.cs=c::r){j:Nat}(z:kB c.vs name=some j)(D:name.size<=maxLen)(K:m.v.length<=2000000000):
 Calls Tryz.prog 94 #[.pointer (some ⟨G.b,0,none⟩),v] w (uX G w ⟨m.s,m.v++[evGet c.vs name],m.cs⟩ (.tuple #[])):=by
 obtain⟨g,o,rfl,ao,ah,ai,aj,ak,av,_⟩:=q.cells;have O:=hid A;obtain⟨vi,vv,pa,vo,d⟩:=A;have au:=d.lt;have al:=d.hB;have ap:g<w.heap.size:=I7
 obtain⟨⟨P,Q,R,S,T,U,V,W,X,Y⟩,Z⟩:=zI d.box;have u:=d.frs;rw[p]at u;obtain⟨a,ax,ay,mp,az,locs,aw,rfl,f,_⟩:=u;obtain⟨⟨aa,ab,ad,ae,af⟩,ag⟩:=zQ f.box;have aq:=zB f.box;obtain⟨b,x,J,M,k,_,i,N,y⟩:=f.var z;have L:=f.map.2.look (t:=163) Tryz.underlying163 (zero_ptr w) D;rw[k]at L
 have ar:(Instr.lookup 163 (.map (some mp)) (.string name) false).run Tryz.prog w.drew=.ok (.pointer (some ⟨b,0,none⟩)) w.drew:=by
  have:=(f.map.2.of_block (w':=w.drew) rfl).look (t:=163) Tryz.underlying163 (zero_ptr _) D;rw[k]at this;exact this
 have am:w.cell? ⟨b,0,none⟩=some (.int .i64 x.2):=(Lib.cell_of_heap i 0).trans rfl;have an:=zB i;rw[y];have I:=hid N;have H:=hid (show MW G τ w.drew m from⟨_,_,_,_,d.drew⟩);clear d f p z J M k i y q;go_enter Tryz.func94,Tryz.ntmps94;go_wp2_with (fail)
 go_still_tail 15,(by kernel_rfl)
 repeat still_step
 change wpList _ _ _ _ _ w.drew
 go_wp2_with (first
  | (go_at_call 97;(refine(xa H.out x.2 I.out K).mono ?_);rintro e aA ⟨rfl,C,l⟩
     have F:=hid C;have E:=hid l
     clear C l))
 go_end0
 exact⟨rfl,F.out,Zb.drew.trans E.out⟩
theorem MwI.paid{G:Gm}{τ:Nat->Lb}{w:World}{m:Vm}{vi vv pa vo:Value}(h:MwI G τ w m vi vv pa vo):(w.setCell ⟨G.b,8,none⟩ (.int .i64 ((m.s.cost:Int)+1))).heap[G.b]? =some (mcO G vi vv pa vo (zT m.s)):=Lib.heap_setCell_same h.box _
theorem mapply_one{G:Gm}{τ:Nat->Lb}{w:World}{m:Vm}(ad:MW G τ w m){v:Value}{op n:Int}{name:ByteArray}{args:List Ex}(N:PtE G.B w v (.mk 4 op n name args)){q:List Int}{a:Int}(k:m.v=q++[a])(aq:q.length<=1000000000)(af:m.s.cost+1+m.s.fuel<=1000000000):
 Calls Tryz.prog 94 #[.pointer (some ⟨G.b,0,none⟩),v] w (uX G w ⟨zT m.s,q++[wOne op a],m.cs⟩ (.tuple #[])):=by
 obtain⟨g,o,rfl,an,Z,K,aa,ab,av,_⟩:=N.cells;obtain⟨vi,vv,pa,vo,d⟩:=ad;have ar:=d.lt;have al:=d.hB;have am:=d.hBb;have ap:g<w.heap.size:=I7
 have ae:g≠G.b:=I7
 have aw:G.b≠g:=I7
 obtain⟨⟨u,y,z,A,C,D,E,F,H,I⟩,J⟩:=zI d.box;have Q:=d.pay af;have ax:IntKind.i64.wrap ((m.s.cost:Int)+1)=(m.s.cost:Int)+1:=Ie
 have j:i64R a:=d.nv a Ua;have p:=hid Q;have T:=hid j;have X:=hid (wOne_in op j);have Y:=hid k;have O:=fun i=>(Below.heap_setCell w ⟨G.b,8,none⟩ (.int .i64 ((m.s.cost:Int)+1)) i)
 have l:(w.setCell ⟨G.b,8,none⟩ (.int .i64 ((m.s.cost:Int)+1))).heap.size=w.heap.size:=Id
 have M:∀i,(w.setCell ⟨G.b,8,none⟩ (.int .i64 ((m.s.cost:Int)+1))).cell? ⟨g,i,none⟩=w.cell? ⟨g,i,none⟩:=fun i=>World.cell?_of_block (O g ae)
 have aj:(w.setCell ⟨G.b,8,none⟩ (.int .i64 ((m.s.cost:Int)+1))).cell? ⟨g,o+1,none⟩=some (.int .i64 op):=(M _).trans K;have r:=hid d.paid;clear d N Q j O M k;go_enter Tryz.func94,Tryz.ntmps94;go_upto_region 9 with(fail);have az:=Nat.le_of_eq l;have ay:=Nat.le_of_eq l.symm;generalize w.setCell ⟨G.b,8,none⟩ (.int .i64 ((m.s.cost:Int)+1))=W at *;clear l u y z A C D E F H I J Z K aa ab;have ao:g<W.heap.size:=I7
 obtain⟨ak,c,rfl,ag,ah,ai,_,R,S⟩:=p.out.1.popped (q:=q) (x:=a) Y.out;have t:=hid (And.intro R S);have f:=r.out;obtain⟨⟨u,y,z,A,C,D,E,F,H,I⟩,J⟩:=zI f;have au:G.b<W.heap.size:=zB f;clear R S f
 go_region_law (first
  | (go_simp;go_at_call 96;(refine(xI (w:=W.drew) r.out ag ah ai I7).mono ?_);rintro e aA ⟨rfl,rfl⟩)
  | (go_simp;go_at_call 113;(refine(oone_any op a (in_wf T.out) _).mono ?_);rintro e aB ⟨rfl,rfl⟩)
  | (go_simp;go_at_call 97;(refine(xa (m:=⟨zT m.s,q,m.cs⟩) ⟨_,_,_,_,t.out.1.drew⟩ (wOne op a) X.out IJ).mono ?_);rintro e aC ⟨rfl,P,L⟩
     have V:=hid P;have U:=hid L
     clear P L))
 all_goals
  go_wp2_with (fail)
  go_end0
  exact⟨rfl,V.out,(p.out.2.trans t.out.2.drew).trans U.out⟩
theorem mapply_two_yes{G:Gm}{τ:Nat->Lb}{w:World}{m:Vm}(V:MW G τ w m){v:Value}{op n:Int}{name:ByteArray}{args:List Ex}(u:PtE G.B w v (.mk 5 op n name args)){q:List Int}{a b:Int}(f:m.v=q++[a]++[b])(U:q.length<=1000000000)(A:qj op b=true)(Y:m.s.cost+1+m.s.fuel<=1000000000):
 Calls Tryz.prog 94 #[.pointer (some ⟨G.b,0,none⟩),v] w (uX G w ⟨zT m.s,q++[qa op a b],m.cs⟩ (.tuple #[])):=by
 obtain⟨g,o,rfl,af,l,p,T,r,aj,_⟩:=u.cells;obtain⟨vi,vv,pa,vo,c⟩:=V;have ai:=c.lt;have ad:=c.hB;have ae:=c.hBb;have ah:g<w.heap.size:=I7
 have X:g≠G.b:=I7
 have ak:G.b≠g:=I7
 obtain⟨⟨I,J,K,L,M,N,O,P,Q,R⟩,S⟩:=zI c.box;have z:=c.pay Y;have al:IntKind.i64.wrap ((m.s.cost:Int)+1)=(m.s.cost:Int)+1:=Ie
 have k:=hid z;have x:=fun i=>(Below.heap_setCell w ⟨G.b,8,none⟩ (.int .i64 ((m.s.cost:Int)+1)) i)
 have j:(w.setCell ⟨G.b,8,none⟩ (.int .i64 ((m.s.cost:Int)+1))).heap.size=w.heap.size:=Id
 have d:∀i,(w.setCell ⟨G.b,8,none⟩ (.int .i64 ((m.s.cost:Int)+1))).cell? ⟨g,i,none⟩=w.cell? ⟨g,i,none⟩:=fun i=>World.cell?_of_block (x g X)
 have Z:(w.setCell ⟨G.b,8,none⟩ (.int .i64 ((m.s.cost:Int)+1))).cell? ⟨g,o,none⟩=some (.int .i64 5):=(d _).trans l;have aa:(w.setCell ⟨G.b,8,none⟩ (.int .i64 ((m.s.cost:Int)+1))).cell? ⟨g,o+1,none⟩=some (.int .i64 op):=(d _).trans p;have ab:(w.setCell ⟨G.b,8,none⟩ (.int .i64 ((m.s.cost:Int)+1))).cell? ⟨g,o+3,none⟩=some (.string name):=(d _).trans r;have C:=hid (c.nv a (by rw[f];exact List.mem_append_left _ (List.mem_append_right _ (List.mem_singleton.2 rfl))));have F:=hid f;clear f;have H:=hid A;clear A;clear c u z x d;go_enter Tryz.func94,Tryz.ntmps94;go_upto_region 11 with(fail);have an:=Nat.le_of_eq j;have am:=Nat.le_of_eq j.symm;generalize w.setCell ⟨G.b,8,none⟩ (.int .i64 ((m.s.cost:Int)+1))=W at *;clear j I J K L M N O P Q R S l p T r;have ag:g<W.heap.size:=I7
 go_wp2_with (first
  | (go_at_call 114;(refine(mtwo_yes (m:=⟨zT m.s,m.v,m.cs⟩) ⟨_,_,_,_,k.out.1⟩ F.out U C.out op H.out).mono ?_);rintro e ao ⟨rfl,y,t⟩
     have E:=hid y;have D:=hid t
     clear y t))
 go_end0
 exact⟨rfl,E.out,k.out.2.trans D.out⟩
theorem mapply_two_no{G:Gm}{τ:Nat->Lb}{w:World}{m:Vm}(S:MW G τ w m){v:Value}{op n:Int}{name:ByteArray}{args:List Ex}(t:PtE G.B w v (.mk 5 op n name args)){q:List Int}{a b:Int}(f:m.v=q++[a]++[b])(R:q.length<=1000000000)(y:qj op b=false)(V:m.s.cost+1+m.s.fuel<=1000000000):
 Calls Tryz.prog 94 #[.pointer (some ⟨G.b,0,none⟩),v] w (xr G w none (jq (zT m.s) 2)):=by
 obtain⟨g,o,rfl,ad,l,p,P,r,ah,_⟩:=t.cells;obtain⟨vi,vv,pa,vo,c⟩:=S;have ag:=c.lt;have aa:=c.hB;have ab:=c.hBb;have af:g<w.heap.size:=I7
 have U:g≠G.b:=I7
 have ai:G.b≠g:=I7
 obtain⟨⟨D,E,F,H,I,J,K,L,M,N⟩,O⟩:=zI c.box;have x:=c.pay V;have aj:IntKind.i64.wrap ((m.s.cost:Int)+1)=(m.s.cost:Int)+1:=Ie
 have k:=hid x;have u:=fun i=>(Below.heap_setCell w ⟨G.b,8,none⟩ (.int .i64 ((m.s.cost:Int)+1)) i)
 have j:(w.setCell ⟨G.b,8,none⟩ (.int .i64 ((m.s.cost:Int)+1))).heap.size=w.heap.size:=Id
 have d:∀i,(w.setCell ⟨G.b,8,none⟩ (.int .i64 ((m.s.cost:Int)+1))).cell? ⟨g,i,none⟩=w.cell? ⟨g,i,none⟩:=fun i=>World.cell?_of_block (u g U)
 have X:(w.setCell ⟨G.b,8,none⟩ (.int .i64 ((m.s.cost:Int)+1))).cell? ⟨g,o,none⟩=some (.int .i64 5):=(d _).trans l;have Y:(w.setCell ⟨G.b,8,none⟩ (.int .i64 ((m.s.cost:Int)+1))).cell? ⟨g,o+1,none⟩=some (.int .i64 op):=(d _).trans p;have Z:(w.setCell ⟨G.b,8,none⟩ (.int .i64 ((m.s.cost:Int)+1))).cell? ⟨g,o+3,none⟩=some (.string name):=(d _).trans r;have z:=hid (c.nv a (by rw[f];exact List.mem_append_left _ (List.mem_append_right _ (List.mem_singleton.2 rfl))));have A:=hid f;clear f;have C:=hid y;clear y;clear c t x u d;go_enter Tryz.func94,Tryz.ntmps94;go_upto_region 11 with(fail);have al:=Nat.le_of_eq j;have ak:=Nat.le_of_eq j.symm;generalize w.setCell ⟨G.b,8,none⟩ (.int .i64 ((m.s.cost:Int)+1))=W at *;clear j D E F H I J K L M N O l p P r;have ae:g<W.heap.size:=I7
 go_wp2_with (first
  | (go_at_call 114;(refine(mtwo_no (m:=⟨zT m.s,m.v,m.cs⟩) ⟨_,_,_,_,k.out.1⟩ A.out R z.out op C.out).mono ?_);rintro e am ⟨rfl,T,Q⟩;exact⟨rfl,rfl,T,k.out.2.trans Q⟩))
theorem mapply_idx_yes{G:Gm}{τ:Nat->Lb}{w:World}{m:Vm}(aq:MW G τ w m){v:Value}{op n:Int}{name:ByteArray}{args:List Ex}(F:PtE G.B w v (.mk 6 op n name args)){q:List Int}{i:Int}(P:m.v=q++[i])(aJ:q.length<=1000000000){k:Nat}{l:List Int}(J:zb G.p.arrays name=some k)(L:m.s.arr[k]? =some l)(aw:name.size<=maxLen)(I:0<=i/\i<(l.length:Int))(au:m.s.cost+1+m.s.fuel<=1000000000):
 Calls Tryz.prog 94 #[.pointer (some ⟨G.b,0,none⟩),v] w (uX G w ⟨zT m.s,q++[l.getD i.toNat 0],m.cs⟩ (.tuple #[])):=by
 obtain⟨g,o,rfl,aF,z,A,al,C,aL,_⟩:=F.cells;obtain⟨vi,vv,pa,vo,a⟩:=aq;have aK:=a.lt;have aC:=a.hB;have aD:=a.hBb;have aI:g<w.heap.size:=I7
 have ar:g≠G.b:=I7
 have aM:G.b≠g:=I7
 obtain⟨⟨Y,Z,aa,ab,ad,ae,af,ag,ah,ai⟩,aj⟩:=zI a.box;have O:=a.pay au;have aN:IntKind.i64.wrap ((m.s.cost:Int)+1)=(m.s.cost:Int)+1:=Ie
 have f:=hid O;have K:=fun i=>(Below.heap_setCell w ⟨G.b,8,none⟩ (.int .i64 ((m.s.cost:Int)+1)) i)
 have r:(w.setCell ⟨G.b,8,none⟩ (.int .i64 ((m.s.cost:Int)+1))).heap.size=w.heap.size:=Id
 have c:∀i,(w.setCell ⟨G.b,8,none⟩ (.int .i64 ((m.s.cost:Int)+1))).cell? ⟨g,i,none⟩=w.cell? ⟨g,i,none⟩:=fun i=>World.cell?_of_block (K g ar)
 have ay:(w.setCell ⟨G.b,8,none⟩ (.int .i64 ((m.s.cost:Int)+1))).cell? ⟨g,o,none⟩=some (.int .i64 6):=(c _).trans z;have az:(w.setCell ⟨G.b,8,none⟩ (.int .i64 ((m.s.cost:Int)+1))).cell? ⟨g,o+1,none⟩=some (.int .i64 op):=(c _).trans A;have aA:(w.setCell ⟨G.b,8,none⟩ (.int .i64 ((m.s.cost:Int)+1))).cell? ⟨g,o+3,none⟩=some (.string name):=(c _).trans C;have V:=hid P;have u:=hid J;have y:=hid L;have t:=hid I;clear P J L I;clear a F O K c;go_enter Tryz.func94,Tryz.ntmps94;go_upto_region 13 with(fail);have aP:=Nat.le_of_eq r;have aO:=Nat.le_of_eq r.symm;generalize w.setCell ⟨G.b,8,none⟩ (.int .i64 ((m.s.cost:Int)+1))=W at *;clear r Y Z aa ab ad ae af ag ah ai aj z A al C;have aG:g<W.heap.size:=I7
 go_wp2_with (first
  | (go_at_call 115;(refine(mitem_yes (m:=⟨zT m.s,m.v,m.cs⟩) ⟨_,_,_,_,f.out.1⟩ V.out I7 u.out y.out aw t.out).mono ?_)
     rintro e ax ⟨ak,τ1,aT,aV,aQ,aU,aR,rfl,M,ao,av,j,D⟩;have ap:i.toNat<l.length:=by have:=t.out;omega
     obtain⟨x,d⟩:∃x,l[i.toNat]? =some x:=⟨_,List.getElem?_eq_getElem ap⟩
     have aE:ax.cell? ⟨ak,i.toNat,none⟩=some (.int .i64 x):=(Lib.cell_of_heap j i.toNat).trans (by simp[d]);have H:l.getD i.toNat 0=x:=by rw[List.getD_eq_getElem?_getD,d];rfl
     have aH:=zB j;have X:=hid (show i64R x from by obtain⟨aS,an⟩:=f.out.1.arr;obtain⟨aB,_,_,_,_,_,am,_⟩:=an.at u.out y.out;exact am x (List.mem_of_getElem? d));have T:=hid M;have Q:=hid D;have S:=hid H
     clear M ao av j D d H)
  | (go_at_call 97;(refine(xa (m:=⟨zT m.s,q,m.cs⟩) ⟨_,_,_,_,T.out⟩ x X.out IJ).mono ?_);rintro e aW ⟨rfl,N,E⟩
     have U:=hid N;have R:=hid E
     clear N E))
 go_end0
 exact⟨rfl,S.out ▸ U.out,(f.out.2.trans Q.out).trans R.out⟩
theorem mapply_idx_no{G:Gm}{τ:Nat->Lb}{w:World}{m:Vm}(X:MW G τ w m){v:Value}{op n:Int}{name:ByteArray}{args:List Ex}(u:PtE G.B w v (.mk 6 op n name args)){q:List Int}{i:Int}(D:m.v=q++[i])(al:q.length<=1000000000){k:Nat}{l:List Int}(y:zb G.p.arrays name=some k)(A:m.s.arr[k]? =some l)(ab:name.size<=maxLen)(x:¬(0<=i/\i<(l.length:Int)))(aa:m.s.cost+1+m.s.fuel<=1000000000):
 Calls Tryz.prog 94 #[.pointer (some ⟨G.b,0,none⟩),v] w (xr G w none (jq (zT m.s) 3)):=by
 obtain⟨g,o,rfl,ai,j,r,U,t,an,_⟩:=u.cells;obtain⟨vi,vv,pa,vo,a⟩:=X;have am:=a.lt;have ag:=a.hB;have ah:=a.hBb;have ak:g<w.heap.size:=I7
 have Z:g≠G.b:=I7
 have ao:G.b≠g:=I7
 obtain⟨⟨J,K,L,M,N,O,P,Q,R,S⟩,T⟩:=zI a.box;have C:=a.pay aa;have ap:IntKind.i64.wrap ((m.s.cost:Int)+1)=(m.s.cost:Int)+1:=Ie
 have f:=hid C;have z:=fun i=>(Below.heap_setCell w ⟨G.b,8,none⟩ (.int .i64 ((m.s.cost:Int)+1)) i)
 have d:(w.setCell ⟨G.b,8,none⟩ (.int .i64 ((m.s.cost:Int)+1))).heap.size=w.heap.size:=Id
 have c:∀i,(w.setCell ⟨G.b,8,none⟩ (.int .i64 ((m.s.cost:Int)+1))).cell? ⟨g,i,none⟩=w.cell? ⟨g,i,none⟩:=fun i=>World.cell?_of_block (z g Z)
 have ad:(w.setCell ⟨G.b,8,none⟩ (.int .i64 ((m.s.cost:Int)+1))).cell? ⟨g,o,none⟩=some (.int .i64 6):=(c _).trans j;have ae:(w.setCell ⟨G.b,8,none⟩ (.int .i64 ((m.s.cost:Int)+1))).cell? ⟨g,o+1,none⟩=some (.int .i64 op):=(c _).trans r;have af:(w.setCell ⟨G.b,8,none⟩ (.int .i64 ((m.s.cost:Int)+1))).cell? ⟨g,o+3,none⟩=some (.string name):=(c _).trans t;have I:=hid D;have F:=hid y;have H:=hid A;have E:=hid x;clear D y A x;clear a u C z c;go_enter Tryz.func94,Tryz.ntmps94;go_upto_region 13 with(fail);have ar:=Nat.le_of_eq d;have aq:=Nat.le_of_eq d.symm;generalize w.setCell ⟨G.b,8,none⟩ (.int .i64 ((m.s.cost:Int)+1))=W at *;clear d J K L M N O P Q R S T j r U t;have aj:g<W.heap.size:=I7
 go_wp2_with (first
  | (go_at_call 115;(refine(mitem_no (m:=⟨zT m.s,m.v,m.cs⟩) ⟨_,_,_,_,f.out.1⟩ I.out I7 F.out H.out ab E.out).mono ?_);rintro e au ⟨rfl,Y,V⟩;exact⟨rfl,rfl,Y,f.out.2.trans V⟩))
theorem mapply_call{G:Gm}{τ:Nat->Lb}{w:World}{m:Vm}(Y:MW G τ w m){v:Value}{op n:Int}{name:ByteArray}{args:List Ex}(x:PtE G.B w v (.mk 7 op n name args)){q l:List Int}(E:m.v=q++l)(ao:q.length<=1000000000){c:Fu}(y:jH G.p name=some c)(A:l.length=c.params.length)(ab:name.size<=maxLen)(aa:m.s.cost+1+m.s.fuel<=1000000000):
 Calls Tryz.prog 94 #[.pointer (some ⟨G.b,0,none⟩),v] w (uX G w ⟨zT m.s,q,⟨genF c,0,evPar c l,[]⟩::m.cs⟩ (.tuple #[])):=by
 obtain⟨g,o,rfl,ai,k,r,X,t,am,_⟩:=x.cells;obtain⟨vi,vv,pa,vo,a⟩:=Y;have al:=a.lt;have ag:=a.hB;have ah:=a.hBb;have ak:g<w.heap.size:=I7
 have Z:g≠G.b:=I7
 have an:G.b≠g:=I7
 obtain⟨⟨L,M,N,O,P,Q,R,S,T,U⟩,V⟩:=zI a.box;have D:=a.pay aa;have ap:IntKind.i64.wrap ((m.s.cost:Int)+1)=(m.s.cost:Int)+1:=Ie
 have j:=hid D;have z:=fun i=>(Below.heap_setCell w ⟨G.b,8,none⟩ (.int .i64 ((m.s.cost:Int)+1)) i)
 have f:(w.setCell ⟨G.b,8,none⟩ (.int .i64 ((m.s.cost:Int)+1))).heap.size=w.heap.size:=Id
 have d:∀i,(w.setCell ⟨G.b,8,none⟩ (.int .i64 ((m.s.cost:Int)+1))).cell? ⟨g,i,none⟩=w.cell? ⟨g,i,none⟩:=fun i=>World.cell?_of_block (z g Z)
 have ad:(w.setCell ⟨G.b,8,none⟩ (.int .i64 ((m.s.cost:Int)+1))).cell? ⟨g,o,none⟩=some (.int .i64 7):=(d _).trans k;have ae:(w.setCell ⟨G.b,8,none⟩ (.int .i64 ((m.s.cost:Int)+1))).cell? ⟨g,o+1,none⟩=some (.int .i64 op):=(d _).trans r;have af:(w.setCell ⟨G.b,8,none⟩ (.int .i64 ((m.s.cost:Int)+1))).cell? ⟨g,o+3,none⟩=some (.string name):=(d _).trans t;have K:=hid E;have H:=hid y;have I:=hid A;clear E y A;clear a x D z d;go_enter Tryz.func94,Tryz.ntmps94;go_upto_region 15 with(fail);have ar:=Nat.le_of_eq f;have aq:=Nat.le_of_eq f.symm;generalize w.setCell ⟨G.b,8,none⟩ (.int .i64 ((m.s.cost:Int)+1))=W at *;clear f L M N O P Q R S T U V k r X t;have aj:g<W.heap.size:=I7
 go_wp2_with (first
  | (go_at_call 69;(refine(mcall_any (m:=⟨zT m.s,m.v,m.cs⟩) ⟨_,_,_,_,j.out.1⟩ K.out I7 H.out I.out ab).mono ?_);rintro e au ⟨rfl,C,u⟩
     have J:=hid C;have F:=hid u
     clear C u))
 go_end0
 exact⟨rfl,J.out,j.out.2.trans F.out⟩
theorem mapply_read_yes{G:Gm}{τ:Nat->Lb}{w:World}{m:Vm}(S:MW G τ w m){v:Value}{op n:Int}{name:ByteArray}{args:List Ex}(q:PtE G.B w v (.mk 8 op n name args)){x:Int}{z:List Int}(r:m.s.inp=x::z)(R:m.v.length<=2000000000)(U:m.s.cost+1+m.s.fuel<=1000000000):
 Calls Tryz.prog 94 #[.pointer (some ⟨G.b,0,none⟩),v] w (uX G w ⟨{ zT m.s with inp:=z },m.v++[x],m.cs⟩ (.tuple #[])):=by
 obtain⟨g,o,rfl,ab,j,k,Q,l,ag,_⟩:=q.cells;obtain⟨vi,vv,pa,vo,a⟩:=S;have af:=a.lt;have Z:=a.hB;have aa:=a.hBb;have ae:g<w.heap.size:=I7
 have T:g≠G.b:=I7
 have ah:G.b≠g:=I7
 obtain⟨⟨E,F,H,I,J,K,L,M,N,O⟩,P⟩:=zI a.box;have y:=a.pay U;have ai:IntKind.i64.wrap ((m.s.cost:Int)+1)=(m.s.cost:Int)+1:=Ie
 have f:=hid y;have t:=fun i=>(Below.heap_setCell w ⟨G.b,8,none⟩ (.int .i64 ((m.s.cost:Int)+1)) i)
 have d:(w.setCell ⟨G.b,8,none⟩ (.int .i64 ((m.s.cost:Int)+1))).heap.size=w.heap.size:=Id
 have c:∀i,(w.setCell ⟨G.b,8,none⟩ (.int .i64 ((m.s.cost:Int)+1))).cell? ⟨g,i,none⟩=w.cell? ⟨g,i,none⟩:=fun i=>World.cell?_of_block (t g T)
 have V:(w.setCell ⟨G.b,8,none⟩ (.int .i64 ((m.s.cost:Int)+1))).cell? ⟨g,o,none⟩=some (.int .i64 8):=(c _).trans j;have X:(w.setCell ⟨G.b,8,none⟩ (.int .i64 ((m.s.cost:Int)+1))).cell? ⟨g,o+1,none⟩=some (.int .i64 op):=(c _).trans k;have Y:(w.setCell ⟨G.b,8,none⟩ (.int .i64 ((m.s.cost:Int)+1))).cell? ⟨g,o+3,none⟩=some (.string name):=(c _).trans l;have C:=hid r;clear r;clear a q y t c;go_enter Tryz.func94,Tryz.ntmps94;go_upto_region 17 with(fail);have ak:=Nat.le_of_eq d;have aj:=Nat.le_of_eq d.symm;generalize w.setCell ⟨G.b,8,none⟩ (.int .i64 ((m.s.cost:Int)+1))=W at *;clear d E F H I J K L M N O P j k Q l;have ad:g<W.heap.size:=I7
 go_wp2_with (first
  | (go_at_call 116;(refine(mread_yes (m:=⟨zT m.s,m.v,m.cs⟩) ⟨_,_,_,_,f.out.1⟩ C.out R).mono ?_);rintro e al ⟨rfl,u,p⟩
     have D:=hid u;have A:=hid p
     clear u p))
 go_end0
 exact⟨rfl,D.out,f.out.2.trans A.out⟩
theorem mapply_read_no{G:Gm}{τ:Nat->Lb}{w:World}{m:Vm}(M:MW G τ w m){v:Value}{op n:Int}{name:ByteArray}{args:List Ex}(p:PtE G.B w v (.mk 8 op n name args))(q:m.s.inp=[])(P:m.s.cost+1+m.s.fuel<=1000000000):
 Calls Tryz.prog 94 #[.pointer (some ⟨G.b,0,none⟩),v] w (xr G w none (jq (zT m.s) 4)):=by
 obtain⟨g,o,rfl,V,j,k,K,l,aa,_⟩:=p.cells;obtain⟨vi,vv,pa,vo,a⟩:=M;have Z:=a.lt;have T:=a.hB;have U:=a.hBb;have Y:g<w.heap.size:=I7
 have O:g≠G.b:=I7
 have ab:G.b≠g:=I7
 obtain⟨⟨x,y,z,A,C,D,E,F,H,I⟩,J⟩:=zI a.box;have t:=a.pay P;have ad:IntKind.i64.wrap ((m.s.cost:Int)+1)=(m.s.cost:Int)+1:=Ie
 have f:=hid t;have r:=fun i=>(Below.heap_setCell w ⟨G.b,8,none⟩ (.int .i64 ((m.s.cost:Int)+1)) i)
 have d:(w.setCell ⟨G.b,8,none⟩ (.int .i64 ((m.s.cost:Int)+1))).heap.size=w.heap.size:=Id
 have c:∀i,(w.setCell ⟨G.b,8,none⟩ (.int .i64 ((m.s.cost:Int)+1))).cell? ⟨g,i,none⟩=w.cell? ⟨g,i,none⟩:=fun i=>World.cell?_of_block (r g O)
 have Q:(w.setCell ⟨G.b,8,none⟩ (.int .i64 ((m.s.cost:Int)+1))).cell? ⟨g,o,none⟩=some (.int .i64 8):=(c _).trans j;have R:(w.setCell ⟨G.b,8,none⟩ (.int .i64 ((m.s.cost:Int)+1))).cell? ⟨g,o+1,none⟩=some (.int .i64 op):=(c _).trans k;have S:(w.setCell ⟨G.b,8,none⟩ (.int .i64 ((m.s.cost:Int)+1))).cell? ⟨g,o+3,none⟩=some (.string name):=(c _).trans l;have u:=hid q;clear q;clear a p t r c;go_enter Tryz.func94,Tryz.ntmps94;go_upto_region 17 with(fail);have af:=Nat.le_of_eq d;have ae:=Nat.le_of_eq d.symm;generalize w.setCell ⟨G.b,8,none⟩ (.int .i64 ((m.s.cost:Int)+1))=W at *;clear d x y z A C D E F H I J j k K l;have X:g<W.heap.size:=I7
 go_wp2_with (first
  | (go_at_call 116;(refine(mread_no (m:=⟨zT m.s,m.v,m.cs⟩) ⟨_,_,_,_,f.out.1⟩ u.out).mono ?_);rintro e ag ⟨rfl,N,L⟩;exact⟨rfl,rfl,N,f.out.2.trans L⟩))
end Go.Proofs.YthcmenajdcbnnaaGreatDoor
namespace Go.Proofs.YthcmenajdcbnnaaGreatDoor
open Lib (hid)
open Go.RowKit
def isJ:Ins->Bool
 | .jmp _=>true
 | .unl _=>true
 | .lzy _ _=>true
 | _=>false
def setTo(n:Nat):Ins->Ins
 | .jmp _=>.jmp n
 | .unl _=>.unl n
 | .lzy z _=>.lzy z n
 | x=>x
def xQ(n:Nat)(C:List Ins)(i:Nat):List Ins:=match C[i]? with
 | some x=>C.set i (setTo n x)
 | none=>C
def jG(n:Nat)(C:List Ins)(ps:List Nat):List Ins:=ps.foldl (xQ n) C
theorem setAt_len(n:Nat)(C:List Ins)(i:Nat):(xQ n C i).length=C.length:=by
 unfold xQ;split
 .rw[List.length_set]
 .rfl
theorem vY(n:Nat):∀(ps:List Nat) (C:List Ins),(jG n C ps).length=C.length
 | [],_=>rfl
 | i::r,C=>by
   show(jG n (xQ n C i) r).length=_;rw[vY n r,setAt_len]
theorem patch_snoc(n:Nat)(C:List Ins)(ps:List Nat)(i:Nat):jG n C (ps++[i])=xQ n (jG n C ps) i:=by unfold jG;rw[List.foldl_append];rfl
theorem patch_app(n:Nat)(C:List Ins)(ps qs:List Nat):jG n C (ps++qs)=jG n (jG n C ps) qs:=by unfold jG;rw[List.foldl_append]
theorem isJ_to(n:Nat)(x:Ins):isJ (setTo n x)=isJ x:=Q5
def JmpAt(C:List Ins)(ps:List Nat):Prop:=∀i∈ps,∃x,C[i]? =some x/\isJ x=true
theorem setAt_jmp{n:Nat}{C:List Ins}{i j:Nat}{x:Ins}(a:C[j]? =some x)(b:isJ x=true):∃e,(xQ n C i)[j]? =some e/\isJ e=true:=by
 unfold xQ;split
 .rename_i z d
  rw[List.getElem?_set];by_cases c:i=j
  .subst c
   rw[d]at a;injection a with a;subst a;rw[if_pos rfl,if_pos (List.getElem?_eq_some_iff.1 d).1];exact⟨_,rfl,(isJ_to n z).trans b⟩
  .rw[if_neg c]
   exact⟨x,a,b⟩
 .exact⟨x,a,b⟩
theorem patch_jmp{n:Nat}:∀{ps:List Nat} {C:List Ins} {j:Nat} {x:Ins},C[j]? =some x->isJ x=true->∃a,(jG n C ps)[j]? =some a/\isJ a=true
 | [],C,j,x,h,hx=>⟨x,h,hx⟩
 | i::r,C,j,x,h,hx=>by
   obtain⟨a,b,c⟩:=setAt_jmp (n:=n) (i:=i) h hx;exact patch_jmp (ps:=r) b c
theorem setAt_app(n:Nat)(a C D:List Ins){i:Nat}(b:i<C.length):xQ n (a++C++D) (a.length+i)=a++xQ n C i++D:=by
 unfold xQ
 have c:(a++C++D)[a.length+i]? =C[i]?:=by
  rw[List.append_assoc,List.getElem?_append_right I7,show a.length+i-a.length=i by omega,List.getElem?_append_left b]
 rw[c];cases hc:C[i]? with
 | none=>rfl
 | some x=>
   dsimp only;rw[List.append_assoc,List.set_append_right _ _ I7,show a.length+i-a.length=i by omega,List.set_append_left _ _ b,List.append_assoc]
theorem lenXs_app:∀(a c:List Ex),zE (a++c)=zE a+zE c
 | [],c=>by simp[zE]
 | x::r,c=>by rw[List.cons_append,zE,zE,lenXs_app r c,Nat.add_assoc]
theorem genXs_app:∀(a c:List Ex) (b:Nat),zv (a++c) b=zv a b++zv c (b+zE a)
 | [],c,b=>by simp[zv,zE]
 | x::r,c,b=>by rw[List.cons_append,zv,zv,zE,genXs_app r c,List.append_assoc,Nat.add_assoc]
theorem lenTs_app(d:Nat):∀(a c:List St),lenTs (a++c) d=lenTs a d+lenTs c d
 | [],c=>by simp[lenTs]
 | x::r,c=>by rw[List.cons_append,lenTs,lenTs,lenTs_app d r c,Nat.add_assoc]
theorem genTs_app(d st e:Nat):∀(a c:List St) (b:Nat),qH (a++c) b d st e=qH a b d st e++qH c (b+lenTs a d) d st e
 | [],c,b=>by simp[qH,lenTs]
 | x::r,c,b=>by rw[List.cons_append,qH,qH,lenTs,genTs_app d st e r c,List.append_assoc,Nat.add_assoc]
def bB(l:List St)(f:Nat->Nat->List Nat)(b d:Nat):List Nat:=if xq l then f (b+1) (d+1)else f b d
mutual
def bkT:St->Nat->Nat->List Nat
 | .mk k _ _ args thn els,b,d=>
   if k=4 then bB thn (fun b d=>xA thn b d) (b+zE args+2) d++bB els (fun b d=>xA els b d) (b+zE args+3+lB thn (lenTs thn) d) d
   else if k=6 then[b+1+d]
   else[]
def xA:List St->Nat->Nat->List Nat
 | [],_,_=>[]
 | t::r,b,d=>bkT t b d++xA r (b+kn t d) d
end
def bkB(l:List St)(b d:Nat):List Nat:=bB l (fun b d=>xA l b d) b d
def Pt(n:Nat)(g c:List Ins)(b:Nat)(ps:List Nat):Prop:=c.length=g.length/\∀a D:List Ins,a.length=b->jG n (a++g++D) ps=a++c++D/\∀i∈ps,∃x,(a++g++D)[i]? =some x/\isJ x=true
theorem Pt.nil(n:Nat)(g:List Ins)(b:Nat):Pt n g g b []:=⟨rfl,fun c D _=>⟨rfl,fun i a=>Ii⟩⟩
theorem Pt.app{n:Nat}{g e d l:List Ins}{b c:Nat}{ps o:List Nat}(x:Pt n g e b ps)(k:Pt n d l c o)(m:c=b+g.length):Pt n (g++d) (e++l) b (ps++o):=by
 refine⟨by rw[List.length_append,List.length_append,x.1,k.1],fun a D j=>?_⟩;obtain⟨p,q⟩:=x.2 a (d++D) j;obtain⟨r,t⟩:=k.2 (a++e) D (by rw[List.length_append,j,x.1,m]);obtain⟨_,s⟩:=k.2 (a++g) D (by rw[List.length_append,j,m]);rw[patch_app,show a++(g++d)++D=a++g++(d++D)by simp,p];refine⟨?_,fun i f=>?_⟩
 .rw[show a++e++(d++D)=a++e++d++D by simp,r]
  simp
 .rcases List.mem_append.1 f with f|f
  .exact q i f
  .have:=s i f
   rwa [show a++g++(d++D)=a++g++d++D by simp]
theorem Pt.left{n:Nat}{g d:List Ins}{b c:Nat}{ps:List Nat}(x:Pt n g d c ps)(a:List Ins)(e:c=b+a.length):Pt n (a++g) (a++d) b ps:=by
 have:=(Pt.nil n a b).app x e;rwa [List.nil_append]at this
theorem Pt.cons{n:Nat}{g c:List Ins}{b:Nat}{ps:List Nat}(x:Pt n g c (b+1) ps)(a:Ins):Pt n (a::g) (a::c) b ps:=x.left [a] rfl
theorem Pt.right{n:Nat}{g c:List Ins}{b:Nat}{ps:List Nat}(x:Pt n g c b ps)(a:List Ins):Pt n (g++a) (c++a) b ps:=by
 have:=x.app (Pt.nil n a (b+g.length)) rfl;rwa [List.append_nil]at this
theorem Pt.one(n:Nat)(x:Ins)(f:isJ x=true)(b:Nat):Pt n [x] [setTo n x] b [b]:=by
 refine⟨rfl,fun a D c=>?_⟩
 have d:(a++[x]++D)[b]? =some x:=by
  rw[List.append_assoc,List.getElem?_append_right I7,<-c,Nat.sub_self];rfl
 refine⟨?_,fun i e=>?_⟩
 .have:=setAt_app n a [x] D (i:=0) Ia
  rw[Nat.add_zero,c]at this;show xQ n (a++[x]++D) b=_;rw[this];rfl
 .rw[List.mem_singleton.1 e]
  exact⟨x,d,f⟩
theorem Pt.cast{n:Nat}{g a:List Ins}{b c:Nat}{ps:List Nat}(x:Pt n g a b ps)(e:b=c):Pt n g a c ps:=e ▸ x
theorem gB_pt{n:Nat}{l:List St}{f a:Nat->Nat->List Ins}{ps:Nat->Nat->List Nat}(c:∀b d,Pt n (f b d) (a b d) b (ps b d))(b d:Nat):Pt n (gB l f b d) (gB l a b d) b (bB l ps b d):=by
 unfold gB bB;split
 .exact((c (b+1) (d+1)).right [.lve]).cons .ent
 .exact c b d
mutual
theorem genT_pt(n:Nat):∀(t:St) (b d st:Nat),Pt n (kN t b d st 0) (kN t b d st n) b (bkT t b d)
 | .mk k ty name args thn els,b,d,st=>by
   rw[kN,kN,bkT];by_cases a:k=4
   .rw[if_pos a,if_pos a,if_pos a]
    have g:=gB_pt (l:=thn) (fun b d=>genTs_pt n thn b d st) (b+zE args+2) d;have i:=gB_pt (l:=els) (fun b d=>genTs_pt n els b d st) (b+zE args+3+lB thn (lenTs thn) d) d;have j:(gB thn (fun b d=>qH thn b d st 0) (b+zE args+2) d).length=lB thn (lenTs thn) d:=gB_len (fun b d=>jL thn b d st 0) _ _;exact Pt.cons (Pt.left (Pt.cons (g.app (Pt.cons (i.cast I7) _) (c:=b+zE args+2+lB thn (lenTs thn) d) (by rw[j])) _) _ (by rw[qZ];omega)) _
   rw[if_neg a,if_neg a,if_neg a];by_cases f:k=5
   .rw[if_pos f,if_pos f,if_neg I7]
    exact Pt.nil _ _ _
   rw[if_neg f,if_neg f];by_cases e:k=6
   .rw[if_pos e,if_pos e,if_pos e]
    exact Pt.cons ((Pt.one n (.jmp 0) rfl (b+1+d)).left (List.replicate d .lve) (by rw[List.length_replicate])) _
   rw[if_neg e,if_neg e,if_neg e];exact Pt.nil _ _ _
theorem genTs_pt(n:Nat):∀(l:List St) (b d st:Nat),Pt n (qH l b d st 0) (qH l b d st n) b (xA l b d)
 | [],_,_,_=>Pt.nil _ _ _
 | t::r,b,d,st=>by
   rw[qH,qH,xA];exact(genT_pt n t b d st).app (genTs_pt n r (b+kn t d) d st) (by rw[genT_len])
end
theorem bkTs_app(d:Nat):∀(a c:List St) (b:Nat),xA (a++c) b d=xA a b d++xA c (b+lenTs a d) d
 | [],c,b=>by simp[xA,lenTs]
 | x::r,c,b=>by rw[List.cons_append,xA,xA,lenTs,bkTs_app d r c,List.append_assoc,Nat.add_assoc]
end Go.Proofs.YthcmenajdcbnnaaGreatDoor
