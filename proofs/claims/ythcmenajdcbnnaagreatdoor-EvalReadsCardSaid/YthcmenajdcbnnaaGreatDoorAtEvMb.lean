import Derived.Test.YthcmenajdcbnnaaGreatDoorAtErCon
set_option linter.unusedSimpArgs false
set_option linter.unusedVariables false
set_option maxRecDepth 100000
set_option maxHeartbeats 99000000
/- The developers' machine: two values, what is read, an index, the end of a call, a declaration. -/
namespace Go.Proofs.YthcmenajdcbnnaaGreatDoor
open Lib (hid)
open Go.RowKit Go.Maps
theorem Ow{p:Prop}(h:p:=by
 go_region_law (first
  | (go_simp;go_at_call 96;(refine(xI (w:=w.drew) z.out J K L F).mono ?_);rintro e Z ⟨rfl,rfl⟩))
 all_goals
  go_wp2;exact⟨rfl,rfl,⟨τ,_,_,_,_,_,_,u.out.1.drew⟩,u.out.2.drew⟩):p:=h
theorem mtwo_no{G:Gm}{τ:Nat->Lb}{w:World}{m:Vm}(i:MW G τ w m){q:List Int}{a b:Int}(l:m.v=q++[a]++[b])(I:q.length<=1000000000)(A:i64R a)(op:Int)(o:qj op b=false):
 Calls Tryz.prog 114 #[.pointer (some ⟨G.b,0,none⟩),.int .i64 op] w (xr G w none (jq m.s 2)):=by
 have t:=hid i;have y:=hid l;have B:(q++[a]).length<=2000000000:=I9
 have H:=hid (wTwo_in op b A);have z:=hid o;clear i l o;go_enter Tryz.func114,Tryz.ntmps114
 go_wp2_with (first
  | (go_at_call 96;(with_reducible refine(jr t.out y.out B).mono ?_);rintro e J ⟨rfl,⟨τ1,j⟩,d⟩
     have u:=hid j;have p:=hid d
     clear j d)
  | (go_at_call 96;(with_reducible refine(jr u.out rfl I7).mono ?_);rintro e K ⟨rfl,⟨τ2,k⟩,g⟩
     have x:=hid k;have r:=hid g
     clear k g)
  | (go_at_call 144;(with_reducible refine(otwo_any op a b _).mono ?_);rintro e L ⟨rfl,rfl⟩
     rw[z.out]))
 obtain⟨D,F,C,E,c⟩:=x.out;exact⟨rfl,rfl,⟨τ2,_,_,D,F,C,E,⟨c.hB,c.old,c.tab,c.pok,c.box,c.lab,c.inp,c.val,c.out,c.frs,c.fun',c.arr,c.nv,c.ni,c.no,c.lim,c.kp⟩⟩,p.out.trans r.out⟩
theorem mtwo_yes{G:Gm}{τ:Nat->Lb}{w:World}{m:Vm}(i:MW G τ w m){q:List Int}{a b:Int}(o:m.v=q++[a]++[b])(H:q.length<=1000000000)(E:i64R a)(op:Int)(p:qj op b=true):
 Calls Tryz.prog 114 #[.pointer (some ⟨G.b,0,none⟩),.int .i64 op] w (uX G w ⟨m.s,q++[qa op a b],m.cs⟩ (.tuple #[])):=by
 have x:=hid i;have C:=hid o;have F:(q++[a]).length<=2000000000:=I9
 have B:=hid (wTwo_in op b E);have D:=hid p;clear i o p;go_enter Tryz.func114,Tryz.ntmps114
 go_wp2_with (first
  | (go_at_call 96;(with_reducible refine(jr x.out C.out F).mono ?_);rintro e I ⟨rfl,⟨τ1,j⟩,c⟩
     have y:=hid j;have r:=hid c
     clear j c)
  | (go_at_call 96;(with_reducible refine(jr y.out rfl I7).mono ?_);rintro e J ⟨rfl,⟨τ2,k⟩,d⟩
     have z:=hid k;have t:=hid d
     clear k d)
  | (go_at_call 144;(with_reducible refine(otwo_any op a b _).mono ?_);rintro e K ⟨rfl,rfl⟩
     rw[D.out])
  | (go_at_call 97;(with_reducible refine(xa z.out (qa op a b) B.out IJ).mono ?_);rintro e L ⟨rfl,l,g⟩
     have A:=hid l;have u:=hid g
     clear l g))
 go_end0
 exact⟨rfl,A.out,(r.out.trans t.out).trans u.out⟩
theorem mread_no{G:Gm}{τ:Nat->Lb}{w:World}{m:Vm}(j:MW G τ w m)(i:m.s.inp=[]):
 Calls Tryz.prog 116 #[.pointer (some ⟨G.b,0,none⟩)] w (xr G w none (jq m.s 4)):=by
 obtain⟨l,p,k,o,a⟩:=j;obtain⟨⟨r,t,e,u,x,y,z,A,B,C⟩,D⟩:=zI a.box;have F:=a.lt;obtain⟨q,c,d,_⟩:=a.inp.1.form;rw[i]at d;rw[d]at e;have g:=hid (show MwI G τ w ⟨jq m.s 4,m.v,m.cs⟩ l p k o from⟨a.hB,a.old,a.tab,a.pok,a.box,a.lab,a.inp,a.val,a.out,a.frs,a.fun',a.arr,a.nv,a.ni,a.no,a.lim,a.kp⟩);have E:((([]:List Int).length:Nat):Int)=0:=rfl;rw[List.length_nil]at e;clear a d;go_enter Tryz.func116,Tryz.ntmps116;go_wp2;exact⟨rfl,rfl,⟨τ,_,_,_,_,_,_,g.out⟩,Below.refl _ _⟩
theorem mread_yes{G:Gm}{τ:Nat->Lb}{w:World}{m:Vm}(H:MW G τ w m){x:Int}{d:List Int}(l:m.s.inp=x::d)(P:m.v.length<=2000000000):
 Calls Tryz.prog 116 #[.pointer (some ⟨G.b,0,none⟩)] w (uX G w ⟨{ m.s with inp:=d },m.v++[x],m.cs⟩ (.tuple #[])):=by
 have E:=hid H;obtain⟨aI,aK,aH,aJ,a⟩:=H;obtain⟨⟨Z,aa,L,ab,ad,ae,af,ag,ah,ai⟩,aj⟩:=zI a.box;have aC:=a.lt;have ax:=a.hB;have I:i64R x:=a.ni x (by rw[l];exact List.mem_cons_self ..);obtain⟨X,c,r,z⟩:=a.inp.1.form;rw[l,List.length_cons]at r z;have y:=a.inp;rw[r,l]at y;obtain⟨g,o,N,ay,T⟩:=y.1.cells (i:=0) (t:=x) rfl;subst N;have aA:g<w.heap.size:=I7
 rw[Nat.add_zero]at T;rw[r]at L;have aE:(((d.length+1 :Nat):Int) == 0)=false:=I9
 have aF:0<d.length+1:=Nat.succ_pos _;have J:=hid I;have C:=hid l;clear a r y I l;go_enter Tryz.func116,Tryz.ntmps116
 go_wp2_with (first
  | (go_at_call 97;(with_reducible refine(xa E.out x J.out P).mono ?_);rintro e q ⟨rfl,⟨τ1,U,W,S,V,k⟩,F⟩
     obtain⟨⟨ak,al,M,am,an,ao,ap,aq,ar,au⟩,av⟩:=zI k.box;have p:SlC G.B q U (x::d):=C.out ▸ k.inp;obtain⟨Y,c1,rfl,_⟩:=p.1.form;have O:(x::d).length<=c1:=p.2 _ _ _ rfl;obtain⟨aw,aG,rfl,az,_⟩:=p.1.cells (i:=0) (t:=x) rfl;have Q:(x::d).length=d.length+1:=rfl;rw[Q]at M O;have aD:=k.lt;have aB:0<d.length+1:=Nat.succ_pos _;have D:=hid p;have j:=hid k;have A:=hid F
     clear k F p))
 all_goals go_end0
 all_goals
  have K:∀u,SlC G.B q u d->MwI G τ1 (q.setCell ⟨G.b,2,none⟩ u) ⟨{ m.s with inp:=d },m.v++[x],m.cs⟩ u W S V/\Below G.B q (q.setCell ⟨G.b,2,none⟩ u):=fun u R=>
   j.out.cell1 (m':=⟨{ m.s with inp:=d },m.v++[x],m.cs⟩) 2 u (Lib.heap_setCell_same j.out.box _) R j.out.val j.out.out j.out.frs rfl j.out.nv (fun n z=>E.out.elim fun _ a=>a.elim fun _ a=>a.elim fun _ a=>a.elim fun _ a=>a.ni n (C.out ▸ List.mem_cons_of_mem _ z)) j.out.no j.out.lim
  first
   | exact⟨rfl,⟨τ1,_,_,_,_,(K _ (slC_tail D.out)).1⟩,A.out.trans (K _ (slC_tail D.out)).2⟩
   | exact⟨rfl,⟨τ1,_,_,_,_,(K _ (slC_last I7 _)).1⟩,A.out.trans (K _ (slC_last I7 _)).2⟩
theorem MwI.drew{G:Gm}{τ:Nat->Lb}{w:World}{m:Vm}{b c a vo:Value}(d:MwI G τ w m b c a vo):MwI G τ w.drew m b c a vo:=d.keepB Zb.drew
theorem ArrR.drew{G:Gm}{τ:Nat->Lb}{w:World}{arr:List (List Int)}{rows:List Nat}(a:ArrR G τ w arr rows):ArrR G τ w.drew arr rows:=a.keep (X:=XN) (OffX.drew _ w) (Ext.refl τ w) ⟨id,fun _=>id⟩
theorem yy(w:World):(zeroValue 23).run Tryz.prog w=.ok (.slice none 0 0) w:=by kernel_rfl
theorem ArrR.at{G:Gm}{τ:Nat->Lb}{w:World}{arr:List (List Int)}{a:List Nat}(d:ArrR G τ w arr a){name:ByteArray}{k:Nat}{l:List Int}(o:zb G.p.arrays name=some k)(c:arr[k]? =some l):
 ∃g,a[k]? =some g/\arrF G.p a arr name=.slice (some ⟨g,0,none⟩) l.length l.length/\g<w.heap.size/\τ g=.arr k/\w.heap[g]? =some (inO l)/\AllR64 l/\l.length<=1000:=by
 have q:=(List.getElem?_eq_some_iff.1 c).1;obtain⟨g,b⟩:∃g,a[k]? =some g:=⟨_,List.getElem?_eq_getElem (by rw[d.rl];exact q)⟩
 obtain⟨i,e,j,m⟩:=d.row k g l b c;refine⟨g,b,?_,zB e,i,e,j,m⟩;unfold arrF;rw[o];show arV (a.getD k 0,arr.getD k [])=_;rw[List.getD_eq_getElem?_getD,List.getD_eq_getElem?_getD,b,c];rfl
def ItemPost(G:Gm)(w:World)(m:Vm)(q:List Int)(k i:Nat)(l:List Int)(e:Ending)(w':World):Prop:=
 ∃g τ vi vv pa vo rows,e=.returned (.pointer (some ⟨g,i,none⟩))/\MwI G τ w' ⟨m.s,q,m.cs⟩ vi vv pa vo/\ArrR G τ w' m.s.arr rows/\rows[k]? =some g/\w'.heap[g]? =some (inO l)/\Below G.B w w'
theorem mitem_yes{G:Gm}{τ:Nat->Lb}{w:World}{m:Vm}(R:MW G τ w m){q:List Int}{i:Int}(S:m.v=q++[i])(Q:q.length<=2000000000){name:ByteArray}{k:Nat}{l:List Int}(C:zb G.p.arrays name=some k)(D:m.s.arr[k]? =some l)(x:name.size<=maxLen)(B:0<=i/\i<(l.length:Int)):
 Calls Tryz.prog 115 #[.pointer (some ⟨G.b,0,none⟩),.string name] w (ItemPost G w m q k i.toNat l):=by
 obtain⟨aw,ay,av,ax,a⟩:=R;obtain⟨W,o⟩:=a.arr;obtain⟨j,A,r,ak,E,I,_,ao⟩:=o.at C D;obtain⟨n,u⟩:=o.map;obtain⟨g,c,rfl,T,U,V,_,K,L⟩:=a.popped S;have y:OffX (fun k=>XB (τ k)) w (w.setCell ⟨G.b,3,none⟩ (.slice (some ⟨g,0,none⟩) q.length c)):=OffX.set (X:=fun k=>XB (τ k)) w a.lab 3 _;have z:=o.keep (X:=XB) y (Ext.refl τ w) ⟨Ib,fun _=>Ib⟩
 have H:G.am≠G.b:=fun e=>by
  have:=o.lab;rw[e,a.lab]at this;cases this
 have N:=u.look (t:=71) Tryz.underlying71 (yy w) x;rw[r]at N;have O:=(u.of_block (w':=w.setCell ⟨G.b,3,none⟩ (.slice (some ⟨g,0,none⟩) q.length c)) (Below.heap_setCell w ⟨G.b,3,none⟩ _ G.am H)).look (t:=71) Tryz.underlying71 (yy _) x;rw[r]at O;have P:=(u.of_block (w':=w.drew) rfl).look (t:=71) Tryz.underlying71 (yy _) x;rw[r]at P;have F:=(u.of_block (w':=(w.setCell ⟨G.b,3,none⟩ (.slice (some ⟨g,0,none⟩) q.length c)).drew) (Below.heap_setCell w ⟨G.b,3,none⟩ _ G.am H)).look (t:=71) Tryz.underlying71 (yy _) x;rw[r]at F;have ap:(Instr.lookup 71 (.map (some G.am)) (.string name) false).run Tryz.prog (w.drew.setCell ⟨G.b,3,none⟩ (.slice (some ⟨g,0,none⟩) q.length c))=.ok (.slice (some ⟨j,0,none⟩) l.length l.length) (w.drew.setCell ⟨G.b,3,none⟩ (.slice (some ⟨g,0,none⟩) q.length c)):=F;have J:(w.setCell ⟨G.b,3,none⟩ (.slice (some ⟨g,0,none⟩) q.length c)).heap[j]? =some (inO l):=(Below.heap_setCell w ⟨G.b,3,none⟩ _ j (fun e=>by have e:j=G.b:=e;rw[e,a.lab]at E;cases E)).trans I;have d:=hid (And.intro K (And.intro L (And.intro z (And.intro A J))));obtain⟨⟨Y,Z,aa,ab,ad,ae,af,ag,ah,ai⟩,aj⟩:=zI a.box;have aq:=a.lt;have ar:¬i<0:=I7
 have au:¬(l.length:Int)<=i:=I7
 have al:0<=i:=B.1;have an:i<(l.length:Int):=B.2;have M:=hid a.box;clear a o r u I K L z A J y C D;go_enter Tryz.func115,Tryz.ntmps115;go_wp2_with (fail)
 go_region_law (first
  | (go_simp;go_at_call 96;(refine(xI (w:=w.drew) M.out T U V Q).mono ?_);rintro e az ⟨rfl,rfl⟩))
 all_goals
  go_wp2_with (fail);go_ret;exact⟨j,τ,_,_,_,_,W,rfl,d.out.1.drew,d.out.2.2.1.drew,d.out.2.2.2.1,d.out.2.2.2.2,d.out.2.1.drew⟩
theorem mitem_no{G:Gm}{τ:Nat->Lb}{w:World}{m:Vm}(S:MW G τ w m){q:List Int}{i:Int}(U:m.v=q++[i])(F:q.length<=2000000000){name:ByteArray}{k:Nat}{l:List Int}(B:zb G.p.arrays name=some k)(C:m.s.arr[k]? =some l)(y:name.size<=maxLen)(ao:¬(0<=i/\i<(l.length:Int))):
 Calls Tryz.prog 115 #[.pointer (some ⟨G.b,0,none⟩),.string name] w (xr G w none (jq m.s 3)):=by
 obtain⟨W,ax,V,Y,d⟩:=S;obtain⟨aw,j⟩:=d.arr;obtain⟨x,O,o,an,D,I,_,ap⟩:=j.at B C;obtain⟨n,r⟩:=j.map;obtain⟨g,c,rfl,J,K,L,_,a,M⟩:=d.popped U;have A:OffX (fun k=>XB (τ k)) w (w.setCell ⟨G.b,3,none⟩ (.slice (some ⟨g,0,none⟩) q.length c)):=OffX.set (X:=fun k=>XB (τ k)) w d.lab 3 _;have N:=j.keep (X:=XB) A (Ext.refl τ w) ⟨Ib,fun _=>Ib⟩
 have H:G.am≠G.b:=fun e=>by
  have:=j.lab;rw[e,d.lab]at this;cases this
 have P:=r.look (t:=71) Tryz.underlying71 (yy w) y;rw[o]at P;have Q:=(r.of_block (w':=w.setCell ⟨G.b,3,none⟩ (.slice (some ⟨g,0,none⟩) q.length c)) (Below.heap_setCell w ⟨G.b,3,none⟩ _ G.am H)).look (t:=71) Tryz.underlying71 (yy _) y;rw[o]at Q;have R:=(r.of_block (w':=w.drew) rfl).look (t:=71) Tryz.underlying71 (yy _) y;rw[o]at R;have E:=(r.of_block (w':=(w.setCell ⟨G.b,3,none⟩ (.slice (some ⟨g,0,none⟩) q.length c)).drew) (Below.heap_setCell w ⟨G.b,3,none⟩ _ G.am H)).look (t:=71) Tryz.underlying71 (yy _) y;rw[o]at E;have aq:(Instr.lookup 71 (.map (some G.am)) (.string name) false).run Tryz.prog (w.drew.setCell ⟨G.b,3,none⟩ (.slice (some ⟨g,0,none⟩) q.length c))=.ok (.slice (some ⟨x,0,none⟩) l.length l.length) (w.drew.setCell ⟨G.b,3,none⟩ (.slice (some ⟨g,0,none⟩) q.length c)):=E;have T:(w.setCell ⟨G.b,3,none⟩ (.slice (some ⟨g,0,none⟩) q.length c)).heap[x]? =some (inO l):=(Below.heap_setCell w ⟨G.b,3,none⟩ _ x (fun e=>by have e:x=G.b:=e;rw[e,d.lab]at D;cases D)).trans I;have u:=hid (And.intro (show MwI G τ (w.setCell ⟨G.b,3,none⟩ (.slice (some ⟨g,0,none⟩) q.length c)) ⟨jq m.s 3,q,m.cs⟩ W (.slice (some ⟨g,0,none⟩) q.length c) V Y from⟨a.hB,a.old,a.tab,a.pok,a.box,a.lab,a.inp,a.val,a.out,a.frs,a.fun',a.arr,a.nv,a.ni,a.no,a.lim,a.kp⟩) M);obtain⟨⟨aa,ab,ad,ae,af,ag,ah,ai,aj,ak⟩,al⟩:=zI d.box;have ar:=d.lt;have z:=hid d.box;clear d j o r I a M N O T A B C;by_cases au:i<0
 .go_enter Tryz.func115,Tryz.ntmps115
  go_wp2_with (fail)
  exact Ow
 .have av:(l.length:Int)<=i:=by omega
  go_enter Tryz.func115,Tryz.ntmps115;go_wp2_with (fail)
  exact Ow
theorem zQ{W:World}{g:Nat}{b c d e i:Value}{T:TypeId}(a:W.heap[g]? =some (.cells #[b,c,d,e,i] T (0,0))):(W.cell? ⟨g,0,none⟩=some b/\W.cell? ⟨g,1,none⟩=some c/\W.cell? ⟨g,2,none⟩=some d/\W.cell? ⟨g,3,none⟩=some e/\W.cell? ⟨g,4,none⟩=some i)/\∀o,W.frozen? ⟨g,o,none⟩=false:=
 ⟨⟨(Lib.cell_of_heap a 0).trans rfl,(Lib.cell_of_heap a 1).trans rfl,(Lib.cell_of_heap a 2).trans rfl,(Lib.cell_of_heap a 3).trans rfl,(Lib.cell_of_heap a 4).trans rfl⟩,fun o=>QN⟩
theorem mleave_end{G:Gm}{τ:Nat->Lb}{w:World}{m:Vm}(l:MW G τ w m){c:Fr}(j:m.cs=[c])(n:Int):
 Calls Tryz.prog 117 #[.pointer (some ⟨G.b,0,none⟩),.int .i64 n] w (xr G w (some n) m.s):=by
 obtain⟨P,S,N,Q,d⟩:=l;have k:=d.frs;rw[j]at k;obtain⟨a,o,O,mp,R,locs,M,rfl,g,e⟩:=k;have e:o=.pointer none:=e;subst e;obtain⟨⟨p,q,r,t,u,x,y,z,A,B⟩,C⟩:=zI d.box;obtain⟨⟨D,E,F,H,I⟩,J⟩:=zQ g.box;have L:=d.lt;have K:=zB g.box;have i:=hid (d.cell1 (m':=⟨m.s,m.v,[]⟩) 4 (.pointer none) (Lib.heap_setCell_same d.box _) d.inp d.val d.out rfl rfl d.nv d.ni d.no d.lim);clear d g j;go_enter Tryz.func117,Tryz.ntmps117;go_wp2;exact⟨rfl,rfl,⟨τ,_,_,_,_,_,_,i.out.1⟩,i.out.2⟩
theorem mleave_go{G:Gm}{τ:Nat->Lb}{w:World}{m:Vm}(B:MW G τ w m){c d:Fr}{r:List Fr}(o:m.cs=c::d::r)(n:Int)(t:i64R n)(A:m.v.length<=2000000000):
 Calls Tryz.prog 117 #[.pointer (some ⟨G.b,0,none⟩),.int .i64 n] w (uX G w ⟨m.s,m.v++[n],d::r⟩ (.tuple #[])):=by
 obtain⟨ai,al,Z,aj,g⟩:=B;have p:=g.frs;rw[o]at p;obtain⟨a,aa,ah,mp,ak,locs,Y,rfl,j,i⟩:=p;obtain⟨z,ab,ad,ae,q4,af,ag,rfl,C,D⟩:=id i;obtain⟨⟨E,F,H,I,J,K,L,M,N,O⟩,P⟩:=zI g.box;obtain⟨⟨Q,R,S,T,U⟩,V⟩:=zQ j.box;have X:=g.lt;have W:=zB j.box;have k:=hid (g.cell1 (m':=⟨m.s,m.v,d::r⟩) 4 (.pointer (some ⟨z,0,none⟩)) (Lib.heap_setCell_same g.box _) g.inp g.val g.out i rfl g.nv g.ni g.no g.lim);have y:=hid t;clear g j o i C D t;go_enter Tryz.func117,Tryz.ntmps117
 go_wp2_with (first
  | (go_at_call 97;(refine(xa (m:=⟨m.s,m.v,d::r⟩) ⟨_,_,_,_,k.out.1⟩ n y.out A).mono ?_);rintro e am ⟨rfl,q,l⟩
     have x:=hid q;have u:=hid l
     clear q l))
 go_end0
 exact⟨rfl,x.out,k.out.2.trans u.out⟩
theorem mdecl_any{w:World}{mp k:Nat}{f:ByteArray->Value}(a:MapV w mp k (.pointer none) f)(b:k<=2000000000)(name:ByteArray)(l:name.size<=maxLen)(n:Int):
 Calls Tryz.prog 92 #[.map (some mp),.string name,.int .i64 n] w fun e w'=>e=.returned (.tuple #[])/\MapV w' mp (k+1) (.pointer none) (upV f name (.pointer (some ⟨w.heap.size,0,none⟩)))/\w'.heap[w.heap.size]? =some (.cells #[.int .i64 n] 3)/\OffX (fun k=>k=mp) w w'/\w.heap.size<w'.heap.size:=by
 have i:=hid (a.of_block (w':=w.alloc (.cells #[.int .i64 n] 3)) (Below.heap_alloc w _ mp a.lt));have o:=a.lt;clear a;go_enter Tryz.func92,Tryz.ntmps92
 go_wp2_with (at_mapUpdate;refine uW rfl _ _ _ 163 rfl 177 Tryz.underlying163 rfl i.out IX name rfl l _ rfl ?_
              intro q d g;have j:=hid d;have c:=hid g
              clear d g)
 go_end0
 have p:=zA w (.cells #[.int .i64 n] 3);refine⟨rfl,j.out,?_,?_,by have:=c.out.size;omega⟩
 .exact(c.out.block _ I7 (by intro e;injection e with e;omega)).trans (heap_alloc_new w _)
 .exact(OffX.alloc (fun k=>k=mp) w _).trans (OffX.grown (X:=fun k=>k=mp) c.out fun k b=>by injection b with b;exact b.symm) fun _ _ m=>m
end Go.Proofs.YthcmenajdcbnnaaGreatDoor
namespace Go.Proofs.YthcmenajdcbnnaaGreatDoor
open Lib (hid)
open Go.RowKit
theorem chkS_loops{p:Pr}{ft k a:Int}{name:ByteArray}{args:List Ex}{thn els:List St}{v:List Pa}{frm n:Nat}{loop:Bool}(b:(vL p ft (.mk k a name args thn els) v frm loop n).1=0):
 kw p ft k a name args v frm loop=0/\(∃n1,(zf p ft thn (j8 k a name v) (j8 k a name v).length (loop || decide (k=5)) n1).1=0)/\∃n2,(zf p ft els (j8 k a name v) (j8 k a name v).length loop n2).1=0:=by
 rw[vL]at b;by_cases c:kw p ft k a name args v frm loop=0
 .rw[if_neg Il]at b
  by_cases d:(zf p ft thn (j8 k a name v) (j8 k a name v).length (loop || decide (k=5)) (n+1)).1=0
  .rw[if_neg Ir]at b
   exact⟨c,⟨_,d⟩,_,b⟩
  .rw[if_pos d]at b;exact absurd b d
 .rw[if_pos c]at b;exact absurd b c
theorem own_loop{p:Pr}{ft k b:Int}{name:ByteArray}{args:List Ex}{v:List Pa}{frm:Nat}{loop:Bool}(a:kw p ft k b name args v frm loop=0)(c:k=6\/k=7):loop=true:=by
 unfold kw at a;rw[if_neg I7,if_neg I7,if_neg I7,if_neg I7,if_neg I7,if_neg I7,if_neg I7]at a;cases loop with
 | true=>rfl
 | false=>exact absurd a I8
def qu(l b e:Bool):Res yL->Prop
 | .ok h _=>(h.1=0\/h.1=1\/h.1=2\/h.1=3)/\(l=false->h.1≠1/\h.1≠2)/\(b=false->h.1≠1)/\(e=true->h.1≠0)
 | .fin _=>True
theorem qu.bind{α:Type}{l b e:Bool}{x:Res α}{f:α->RS->Res yL}(c:∀a t,x=.ok a t->qu l b e (f a t)):qu l b e (x.bind f):=by
 cases x with
 | fin t=>trivial
 | ok a t=>exact c a t rfl
theorem qu.ite{l b e:Bool}{c:Prop}[Decidable c]{x d:Res yL}(g:c->qu l b e x)(i:¬c->qu l b e d):qu l b e (if c then x else d):=by
 by_cases a:c
 .rw[if_pos a];exact g a
 .rw[if_neg a];exact i a
theorem qu.zero{l b:Bool}{n:Int}{vs:Vals}{t:RS}:qu l b false (.ok (0,n,vs) t):=⟨.inl rfl,fun _=>⟨by show(0 :Int)≠1;decide,by show(0 :Int)≠2;decide⟩,fun _=>by show(0 :Int)≠1;decide,fun a=>Ii⟩
theorem qu.three{l b e:Bool}{n:Int}{vs:Vals}{t:RS}:qu l b e (.ok (3,n,vs) t):=⟨.inr (.inr (.inr rfl)),fun _=>⟨by show(3 :Int)≠1;decide,by show(3 :Int)≠2;decide⟩,fun _=>by show(3 :Int)≠1;decide,fun _=>by show(3 :Int)≠0;decide⟩
theorem qu.weak{l b e g i:Bool}{x:Res yL}(c:qu l b e x)(j:g=false->b=false)(k:i=true->e=true):qu l g i x:=by
 cases x with
 | fin t=>trivial
 | ok a t=>exact⟨c.1,c.2.1,fun d=>c.2.2.1 (j d),fun d=>c.2.2.2 (k d)⟩
theorem evLs_how{p:Pr}{ft:Int}{f:Vals->St->RS->Res yL}{loop:Bool}(i:∀(st:St) (vs:Vals) (s:RS) (v:List Pa) (frm n m:Nat),stOK st m=true->(vL p ft st v frm loop n).1=0->qu loop (brkS st) (endS st) (f vs st s)):
 ∀(l:List St) (vs:Vals) (s:RS) (v:List Pa) (frm n m:Nat),stsOK l m=true->(zf p ft l v frm loop n).1=0->qu loop (jM l) (endSs l) (kx f vs l s)
 | [],vs,s,v,frm,n,m,_,_=>qu.zero
 | st::r,vs,s,v,frm,n,m,hok,hc=>by
   rw[jy,Bool.and_eq_true]at hok;obtain⟨j,n1,k⟩:=ur hc;rw[kx,jM,endSs];have b:=i st vs s v frm n m hok.1 j;refine qu.bind fun a t e=>?_
   rw[e]at b;refine qu.ite (fun d=>?_) fun d=>?_
   .refine(evLs_how i r a.2.2 t (letS st v) frm n1 m hok.2 k).weak (fun g=>(Bool.or_eq_false_iff.1 g).2) fun o=>?_
    rcases Bool.or_eq_true_iff.1 o with c|c
    .exact absurd d (b.2.2.2 c)
    .exact c
   .exact⟨b.1,b.2.1,fun g=>b.2.2.1 (Bool.or_eq_false_iff.1 g).1,fun _=>d⟩
theorem evBk_how{l b e:Bool}{f:Vals->St->RS->Res yL}{vs:Vals}{r:List St}{s:RS}(c:qu l b e (kx f vs r s)):qu l b e (qw f vs r s):=by
 unfold qw;refine qu.bind fun a t e=>?_
 rw[e]at c;exact c
theorem evW_how{m:Vals->RS->Res Int}{B:Vals->RS->Res yL}{l g b e:Bool}(r:∀vs s,qu true b (false) (B vs s))(j:e=true->b=false/\∀vs s a t,m vs s=.ok a t->a≠0):∀(k:Nat) (vs:Vals) (s:RS),qu l g e (evW m B k vs s)
 | 0,_,_=>trivial
 | k+1,vs,s=>by
   rw[evW];refine qu.bind fun a t v=>qu.ite (fun o=>?_) fun o=>qu.bind fun c u w=>qu.ite (fun i=>?_) fun i=>qu.ite (fun p=>?_) fun p=>evW_how r j k _ u
   .exact(qu.zero (l:=l) (b:=g)).weak (fun d=>d) fun d=>absurd o ((j d).2 vs s a t v)
   .refine⟨.inr (.inr (.inr i)),fun _=>⟨?_,?_⟩,fun _=>?_,fun _=>?_⟩ <;> rw[i] <;> decide
   .refine(qu.zero (l:=l) (b:=g)).weak (fun d=>d) fun d=>?_
    have q:=r vs t;rw[w]at q;exact absurd p (q.2.2.1 (j d).1)
theorem true_val{p:Pr}{g:Nat}{vs:Vals}{args:List Ex}(c:trueE args=true){s t:RS}{a:Int}(b:yA p g vs (args.getD 0 jz) s=.ok a t):a≠0:=by
 cases args with
 | nil=>cases c
 | cons x r=>
   obtain⟨k,op,n,name,l⟩:=x;unfold trueE at c;simp only[Bool.and_eq_true,decide_eq_true_eq]at c;obtain⟨rfl,rfl⟩:=c;rw[List.getD_cons_zero]at b;cases g with
   | zero=>rw[yA]at b;cases b
   | succ g=>
     by_cases d:0<s.fuel
     .rw[evE_node p g vs 2 op 1 name l d I7]at b
      cases h2:evL (yA p g vs) l (qI s).st with
      | fin w=>rw[h2]at b;cases b
      | ok q w=>
        rw[h2]at b;have b:zw p (callF p g) vs 2 op 1 name q w=Res.ok a t:=b;rw[evNode_lit _ _ _ _ _ _ _ _ (.inr rfl)]at b;injection b with b _;rw[<-b];decide
     .rw[evE_spent p g vs _ I7]at b;cases b
theorem evS_how(p:Pr)(ft:Int):∀(g:Nat) (st:St) (vs:Vals) (s:RS) (v:List Pa) (frm:Nat) (loop:Bool) (n m:Nat),stOK st m=true->(vL p ft st v frm loop n).1=0->qu loop (brkS st) (endS st) (j9 p g vs st s)
 | 0,st,_,_,_,_,_,_,_,_,_=>by rw[j9];trivial
 | g+1,.mk k ty name args thn els,vs,s,v,frm,loop,n,m,hok,hc=>by
   obtain⟨D,⟨n1,e⟩,n2,F⟩:=chkS_loops hc;rw[kH]at hok;simp only[Bool.and_eq_true,decide_eq_true_eq]at hok;have G:=evKind hok.1.1.1.2
   have y:∀(loop:Bool) (l:List St) (vs:Vals) (s:RS) (v:List Pa) (frm n:Nat),stsOK l (m-1)=true->(zf p ft l v frm loop n).1=0->qu loop (jM l) (endSs l) (qw (j9 p g) vs l s):=
    fun loop l vs s v frm n i j=>evBk_how (evLs_how (fun st vs s v frm n m i j=>evS_how p ft g st vs s v frm loop n m i j) l vs s v frm n (m-1) i j)
   rw[j9,brkS,endS];refine qu.bind fun _ t _=>qu.ite (fun q=>?_) fun q=>qu.ite (fun B=>?_) fun B=>qu.ite (fun C=>?_) fun C=>qu.bind fun a u _=>?_
   .subst q
    rw[show(loop || decide ((5 :Int)=5))=true by simp]at e;refine evW_how (b:=jM thn) (fun vs s=>(y true thn vs s _ _ _ hok.1.2 e).weak (fun c=>c) fun c=>Q9) (fun z=>?_) _ vs t;simp at z;exact⟨z.2,fun vs s a t E=>true_val z.1 E⟩
   .subst B
    have A:=own_loop D (.inl rfl);subst A;exact⟨.inr (.inl rfl),fun c=>Q9,fun c=>Q7,fun c=>Q7⟩
   .subst C
    have A:=own_loop D (.inr rfl);subst A;exact⟨.inr (.inr (.inl rfl)),fun c=>Q9,fun c=>(by show(2 :Int)≠1;decide),fun c=>Q7⟩
   by_cases r:k=8
   .subst r
    rw[if_neg I8,if_neg I8,if_neg I8,if_neg I8,if_pos rfl];exact qu.three
   by_cases o:k=4
   .subst o
    rw[if_neg I8,if_neg I8,if_neg I8,if_pos rfl];rw[show(loop || decide ((4 :Int)=5))=loop by simp]at e;refine qu.ite (fun _=>(y loop thn vs u _ _ _ hok.1.2 e).weak (fun c=>?_) fun c=>?_) fun _=>(y loop els vs u _ _ _ hok.2 F).weak (fun c=>?_) fun c=>?_
    .simp at c;exact c.1
    .simp at c;exact c.1
    .simp at c;exact c.2
    .simp at c;exact c.2
   have d:∀{n:Int} {vs:Vals} {t:RS},qu loop (decide (k=6) || decide (k=4) && (jM thn || jM els)) (decide (k=8) || decide (k=4) && (endSs thn && endSs els) || decide (k=5) && (trueE args && !jM thn)) (.ok (0,n,vs) t):=fun {n vs t}=>qu.zero.weak (fun c=>c) fun c=>by simp[o,q,r]at c
   refine qu.ite (fun _=>d) fun _=>qu.ite (fun _=>d) fun _=>qu.ite (fun _=>qu.bind fun n w _=>qu.bind fun _ x _=>d) fun _=>qu.ite (fun c=>absurd c o) fun _=>qu.ite (fun c=>absurd c r) fun _=>qu.ite (fun _=>d) fun _=>d
theorem body_three{p:Pr}{f:Fu}(l:stsOK f.body 100=true)(j:(zf p f.type f.body f.params f.params.length false 0).1=0)(k:endSs f.body=true){g:Nat}{vs:Vals}{s t:RS}{b:yL}(e:qw (j9 p g) vs f.body s=.ok b t):b.1=3:=by
 have a:=evBk_how (evLs_how (fun st vs s v frm n m a c=>evS_how p f.type g st vs s v frm false n m a c) f.body vs s f.params f.params.length 0 100 l j);rw[e]at a;obtain⟨c,d,_,i⟩:=a;have o:=d rfl;have q:=i k;omega
section
variable {p:Pr} {K:Nat} {s t:RS} {v:List Int} {vs:Vals} {o:List Nat}
theorem Lm.mono(a:Lm K s v vs o)(d:t.fuel<=s.fuel)(b:t.cost+t.fuel<=s.cost+s.fuel):Lm K t v vs o:=⟨by have:=a.v;omega,by have:=a.c;omega,by have:=a.vs;omega,a.o⟩
theorem Lm.mv(a:Lm K s v vs o)(m:Mv s t):Lm K t v vs o:=a.mono m.fuel m.pay
theorem Lm.push(b:Lm K s v vs o)(m:Mv s t)(d:t.fuel+1<=s.fuel)(a:Int):Lm K t (v++[a]) vs o:=⟨by have:=b.v;rw[List.length_append,List.length_singleton];omega,(b.mv m).c,(b.mv m).vs,b.o⟩
end
theorem evL_fuel{f:Ex->RS->Res Int}(g:∀e s,Goes s 1 (f e s)):∀{l:List Ex} {s t:RS} {q:List Int},evL f l s=.ok q t->t.fuel+l.length<=s.fuel
 | [],s,t,q,c=>by rw[evL]at c;injection c with _ c;subst c;exact Nat.le_refl _
 | e::r,s,t,q,c=>by
   rw[evL]at c;have d:=g e s;cases hx:f e s with
   | fin u=>rw[hx]at c;cases c
   | ok a u=>
     rw[hx]at c d;have c:(evL f r u).bind (fun l s=>Res.ok (a::l) s)=.ok q t:=c;cases hy:evL f r u with
     | fin v=>rw[hy]at c;cases c
     | ok b v=>
       rw[hy]at c;injection c with _ c;have:=evL_fuel g hy;have:=d.2.1;rw[List.length_cons];subst c;omega
structure Lp where
 st:Nat
 br:Nat
 n:Nat
 o:List Nat
structure InL (lp:Lp) (vs:Vals) (o:List Nat) (d:Nat):Prop where
 ex:∃q,o=lp.o++q/\q.length=d/\(∀x∈q,lp.n<=x)/\(q=[]->vs.length=lp.n)/\(∀x y,q=x::y->x=lp.n)
def jX(lp:Lp)(code:List Ins)(b:Nat)(o:List Nat)(v:List Int)(r:List Fr)(a:yL)(t:RS):VR:=
 if a.1=0 then .go ⟨t,v,⟨code,b,a.2.2,o⟩::r⟩
 else if a.1=1 then .go ⟨t,v,⟨code,lp.br,a.2.2.take lp.n,lp.o⟩::r⟩
 else if a.1=2 then .go ⟨t,v,⟨code,lp.st,a.2.2.take lp.n,lp.o⟩::r⟩
 else retV v r a.2.1 t
def SimE(p:Pr)(K g:Nat):Prop:=∀(x:Ex) (vars:List Pa) (vs:Vals) (s:RS) (m:Nat) (v:List Int) (code:List Ins) (b:Nat) (o:List Nat) (r:List Fr),
 s.fuel<=g->Shp p s->(qx p vars x).2=0->vJ x m=true->yR vs=vars.map (·.name)->Sub code b (xp x b)->Lm K s v vs o->
 Sm p K ⟨s,v,⟨code,b,vs,o⟩::r⟩ (yA p g vs x s) (fun a t=>.go ⟨t,v++[a],⟨code,b+zg x,vs,o⟩::r⟩)
def SimS(p:Pr)(K g:Nat):Prop:=∀(st:St) (ft:Int) (vars:List Pa) (vs:Vals) (frm:Nat) (loop:Bool) (n:Nat) (s:RS) (m:Nat) (v:List Int) (code:List Ins) (b:Nat) (o:List Nat) (r:List Fr) (d:Nat) (lp:Lp),
 s.fuel<=g->Shp p s->stOK st m=true->(vL p ft st vars frm loop n).1=0->yR vs=vars.map (·.name)->Sub code b (kN st b d lp.st lp.br)->Lm K s v vs o->o.length+m<=100->lp.n<=vs.length->(loop=true->InL lp vs o d)->
 Sm p K ⟨s,v,⟨code,b,vs,o⟩::r⟩ (j9 p g vs st s) (jX lp code (b+kn st d) o v r)
theorem sim_L{p:Pr}{K g:Nat}(i:AllR p)(e:SimE p K g){vars:List Pa}{vs:Vals}(j:yR vs=vars.map (·.name)){code:List Ins}{o:List Nat}{r:List Fr}{m:Nat}:∀(l:List Ex) (s:RS) (v:List Int) (b:Nat),
 s.fuel<=g->Shp p s->(∀x∈l,(qx p vars x).2=0)->qC l m=true->Sub code b (zv l b)->Lm K s v vs o->
 Sm p K ⟨s,v,⟨code,b,vs,o⟩::r⟩ (evL (yA p g vs) l s) (fun q t=>.go ⟨t,v++q,⟨code,b+zE l,vs,o⟩::r⟩)
 | [],s,v,b,_,_,_,_,_,_=>by
   rw[evL];show To p K _ (.go ⟨s,v++[],⟨code,b+0,vs,o⟩::r⟩);rw[List.append_nil];exact To.refl
 | x::q,s,v,b,hg,hs,ht,hok,hsub,hL=>by
   rw[zv]at hsub;rw[qb,Bool.and_eq_true]at hok;have w:=ht x (List.mem_cons_self ..);rw[evL];refine(e x vars vs s m v code b o r hg hs w hok.1 j hsub.left hL).bind fun a t y z=>?_
   have c:=qD p g vs x s;have d:=(kM p i g).1 vars vs x s hg hs w;rw[y]at c d;refine Sm.go z ((sim_L i e j q t (v++[a]) (b+zg x) (by have:=c.2.1;omega) d (fun B A=>ht B (List.mem_cons_of_mem _ A)) hok.2 (hsub.right (by rw[xH])) (hL.push c.1 c.2.1 a)).bind fun l u C k=>?_);show To p K _ (.go ⟨u,v++(a::l),⟨code,b+zE (x::q),vs,o⟩::r⟩);rw[List.append_assoc,List.singleton_append]at k;rw[zE,<-Nat.add_assoc,<-List.singleton_append (l:=l),<-List.append_assoc]at *;exact k
theorem evNode_any(p:Pr)(c a:Fu->List Int->RS->Res Int)(vs:Vals){k:Int}(op n:Int)(name:ByteArray)(l:List Int)(s:RS)(b:k≠7):zw p c vs k op n name l s=zw p a vs k op n name l s:=by
 unfold zw;simp only[if_neg b]
theorem formE_two{op n:Int}{name:ByteArray}{a:Nat}(b:zj 5 op n name a=true):a=2:=by
 unfold zj at b;rw[if_neg I8,if_neg I8,if_neg I8,if_neg I8,if_pos rfl]at b;simp only[Bool.and_eq_true,decide_eq_true_eq]at b;exact b.2
theorem drop_app(v l:List Int):(v++l).drop ((v++l).length-l.length)=l/\(v++l).take ((v++l).length-l.length)=v:=by
 rw[show(v++l).length-l.length=v.length by simp];exact⟨List.drop_left' rfl,List.take_left' rfl⟩
theorem qh{α:Type}(v:List α)(a:α):(v++[a]).getLast? =some a:=Ia
theorem qV{α:Type}(v:List α)(a:α):(v++[a]).dropLast=v:=Ia
structure AllE (p:Pr):Prop where
 r:AllR p
 e:∀f∈p.funcs,endSs f.body=true
theorem uF{vs a:Vals}(b:yR a=yR vs):a.length=vs.length:=by have:=congrArg List.length b;simpa[yR]using this
theorem InL.let{lp:Lp}{vs c:Vals}{o:List Nat}{d:Nat}(a:InL lp vs o d)(k:c.length=vs.length\/d≠0):InL lp c o d:=by
 obtain⟨⟨q,e,b,g,i,j⟩⟩:=a;refine⟨⟨q,e,b,g,fun a=>?_,j⟩⟩;have:=i a;subst a;have b:0=d:=b;omega
theorem sim_Ts{p:Pr}{K g:Nat}(E:AllR p)(F:SimS p K g){ft:Int}{code:List Ins}{o:List Nat}{r:List Fr}{d:Nat}{lp:Lp}{v:List Int}{m:Nat}{loop:Bool}{frm:Nat}:∀(l:List St) (vars:List Pa) (vs:Vals) (n:Nat) (s:RS) (b:Nat),
 s.fuel<=g->Shp p s->stsOK l m=true->(zf p ft l vars frm loop n).1=0->yR vs=vars.map (·.name)->Sub code b (qH l b d lp.st lp.br)->Lm K s v vs o->o.length+m<=100->lp.n<=vs.length->(loop=true->InL lp vs o d)->(loop=true->xq l=true->d≠0)->
 Sm p K ⟨s,v,⟨code,b,vs,o⟩::r⟩ (kx (j9 p g) vs l s) (jX lp code (b+lenTs l d) o v r)
 | [],vars,vs,n,s,b,_,_,_,_,_,_,_,_,_,_,_=>by
   rw[kx];show To p K _ (if(0 :Int)=0 then _ else _);rw[if_pos rfl];exact To.refl
 | st::q,vars,vs,n,s,b,hg,hs,hok,hc,hn,hsub,hL,hom,I,hin,hlet=>by
   rw[qH]at hsub;rw[jy,Bool.and_eq_true]at hok;obtain⟨C,n1,N⟩:=ur hc;rw[kx];refine(F st ft vars vs frm loop n s m v code b o r d lp hg hs hok.1 C hn hsub.left hL hom I hin).bind fun a t G j=>?_
   have w:=qr p g vs st s;have A:=(kM p E g).2 ft st vars vs frm loop n s m hg hs hok.1 C;rw[G]at w A;have S:=j;by_cases i:a.1=0
   .rw[if_pos i]
    unfold jX at j;rw[if_pos i]at j;obtain⟨k,z,name,args,thn,els⟩:=st;have B:=evS_nm p g vs k z name args thn els s;rw[G]at B;obtain⟨e,D,y⟩:=B;have y:=y i;subst y;have P:a.2.2.length=vs.length+(uR k name).length:=by have:=congrArg List.length D;simpa[yR]using this
    have R:=w.2.1;have I:(uR k name).length<=1:=by unfold uR;split <;> simp
    have O:Lm K t v a.2.2 o:=⟨(hL.mv w.1).v,(hL.mv w.1).c,by have:=hL.vs;omega,hL.o⟩
    refine Sm.go j ((sim_Ts E F q (letS (.mk k z name args thn els) vars) a.2.2 n1 t (b+kn (.mk k z name args thn els) d) I7 A hok.2 N ?_ (hsub.right (by rw[genT_len])) O hom I7 (fun x=>(hin x).let ?_) fun x J=>hlet x ?_).imp fun M u _=>?_)
    .rw[D,hn,letS,j8,uR]
     split <;> simp
    .by_cases H:k=1
     .exact .inr (hlet x (by unfold xq;rw[List.any_cons];simp[isLt,H]))
     .refine .inl ?_
      rw[P,uR,if_neg H];rfl
    .unfold xq at J ⊢
     rw[List.any_cons,J,Bool.or_true]
    .rw[lenTs,Nat.add_assoc]
   .rw[if_neg i]
    refine(show Sm p K _ (Res.ok a t) (jX lp code (b+kn st d) o v r)from j).imp fun M u e=>?_
    injection e with L Q;subst L;unfold jX;rw[if_neg i,if_neg i]
theorem sim_leaves{p:Pr}{K:Nat}{s:RS}{v:List Int}{code:List Ins}{lo:List Nat}{n:Nat}{r:List Fr}:∀(d:Nat) (q:List Nat) (vs:Vals) (b:Nat),Sub code b (List.replicate d .lve)->Lm K s v vs (lo++q)->q.length=d->(∀x∈q,n<=x)->(q=[]->vs.length<=n)->(∀x e,q=x::e->x=n)->
 To p K ⟨s,v,⟨code,b,vs,lo++q⟩::r⟩ (.go ⟨s,v,⟨code,b+d,vs.take n,lo⟩::r⟩)
 | 0,q,vs,b,_,_,hd,_,h0,_=>by
   have a:=List.eq_nil_of_length_eq_zero hd;subst a;rw[List.append_nil,List.take_of_length_le (h0 rfl)];exact To.refl
 | d+1,q,vs,b,hsub,hL,hd,hx,h0,hh=>by
   rcases List.eq_nil_or_concat q with rfl|⟨g,x,rfl⟩
   .cases hd
   rw[List.concat_eq_append]at *;rw[List.replicate_succ]at hsub;have j:n<=x:=hx x Ia;refine To.go (To.one (p:=p) (K:=K) (x:=.go ⟨s,v,⟨code,b+1,vs.take x,lo++g⟩::r⟩) ?_) ?_
   .rw[yC hL hsub.head]
    show(match (lo++(g++[x])).getLast? with|none=>VR.bad|some n=>_)=_;rw[<-List.append_assoc,qh];dsimp only;rw[qV]
   .have i:=sim_leaves (p:=p) (r:=r) (lo:=lo) d g (vs.take x) (b+1) hsub.tail ⟨hL.v,hL.c,by have:=hL.vs;rw[List.length_take];omega,by have:=hL.o;simp at this ⊢;omega⟩ (by simpa using hd) (fun e k=>hx e (by simp[k])) (fun a=>?_) (fun e z a=>hh e (z++[x]) (by rw[a];rfl))
    .rw[List.take_take,Nat.min_eq_left j,show b+1+d=b+(d+1)by omega]at i
     exact i
    .subst a
     have:=hh x [] rfl;rw[List.length_take];omega
theorem let_nil{p:Pr}{g:Nat}:∀(l:List St) (vs:Vals) (s:RS),xq l=false->vH vs [] (kx (j9 p g) vs l s)
 | [],vs,s,_=>by rw[kx];exact vH.same rfl
 | .mk k ty name args thn els::r,vs,s,c=>by
   unfold xq at c;rw[List.any_cons,Bool.or_eq_false_iff]at c;have w:k≠1:=by simpa[isLt]using c.1
   rw[kx];have i:=evS_nm p g vs k ty name args thn els s;rw[uR,if_neg w]at i;cases e:j9 p g vs (.mk k ty name args thn els) s with
   | fin u=>trivial
   | ok a u=>
     rw[e]at i;obtain⟨q,j,o⟩:=i;show vH vs [] (if a.1=0 then _ else _);by_cases d:a.1=0
     .rw[if_pos d]
      have m:=let_nil (p:=p) (g:=g) r a.2.2 u c.2;cases e2:kx (j9 p g) a.2.2 r u with
      | fin x=>trivial
      | ok b x=>
        rw[e2]at m;obtain⟨y,t,v⟩:=m;refine⟨y,?_,v⟩;rw[t,j,o d,List.append_nil]
     .rw[if_neg d]
      exact⟨q,j,fun c=>absurd c d⟩
theorem outV_cut{lp:Lp}{code:List Ins}{x e n:Nat}{o d:List Nat}{v:List Int}{r:List Fr}{a:yL}{t:RS}(b:a.1≠0)(c:lp.n<=n):jX lp code x o v r (a.1,a.2.1,a.2.2.take n) t=jX lp code e d v r a t:=by
 unfold jX;simp only[if_neg b,List.take_take,Nat.min_eq_left c]
def Wid(vs:Vals):Res yL->Prop
 | .ok h _=>h.2.2.length<=vs.length+1
 | .fin _=>True
theorem Wid.bind{α:Type}{vs:Vals}{x:Res α}{f:α->RS->Res yL}(b:∀a t,Wid vs (f a t)):Wid vs (x.bind f):=by
 cases x with
 | fin t=>trivial
 | ok a t=>exact b a t
theorem Wid.ite{vs:Vals}{c:Prop}[Decidable c]{x b:Res yL}(d:Wid vs x)(e:Wid vs b):Wid vs (if c then x else b):=by
 by_cases a:c
 .rw[if_pos a];exact d
 .rw[if_neg a];exact e
theorem NmS.wid{vs:Vals}{x:Res yL}(b:NmS vs x):Wid vs x:=by
 cases x with
 | fin t=>trivial
 | ok a t=>exact Nat.le_succ_of_le (Nat.le_of_eq (uF b))
theorem Wid.same{vs a:Vals}{b n:Int}{s:RS}(e:a.length<=vs.length+1):Wid vs (.ok (b,n,a) s):=e
theorem evS_wid(p:Pr):∀(g:Nat) (vs:Vals) (st:St) (s:RS),Wid vs (j9 p g vs st s)
 | 0,_,_,_=>by rw[j9];trivial
 | g+1,vs,.mk k i name args thn els,s=>by
   have j:∀vs t s,∃d,vH vs d (j9 p g vs t s):=fun vs t s=>by
    obtain⟨k,i,name,args,thn,els⟩:=t;exact⟨_,evS_nm p g vs k i name args thn els s⟩
   have c:∀vs l s,NmS vs (qw (j9 p g) vs l s):=fun vs l s=>evBk_nm j vs l s
   have b:∀{e n:Int} {s:RS},Wid vs (.ok (e,n,vs) s):=fun {e n s}=>Wid.same (Nat.le_succ _)
   rw[j9];exact Wid.bind fun _ t=>Wid.ite (evW_nm (fun vs s=>c vs thn s) _ vs t).wid (Wid.ite b (Wid.ite b (Wid.bind fun a u=>Wid.ite (Wid.same Ia) (Wid.ite (Wid.same (by rw[uF (evSet_nm vs name a)];omega)) (Wid.ite (Wid.bind fun n w=>Wid.bind fun _ x=>b) (Wid.ite (Wid.ite (c vs thn u).wid (c vs els u).wid) (Wid.ite b (Wid.ite b b))))))))
theorem evLs_room(p:Pr)(g:Nat):∀(l:List St) (vs:Vals) (s t:RS) (a:yL),kx (j9 p g) vs l s=.ok a t->a.2.2.length+t.fuel<=vs.length+s.fuel
 | [],vs,s,t,a,c=>by rw[kx]at c;injection c with i d;subst i d;exact Nat.le_refl _
 | st::r,vs,s,t,a,c=>by
   rw[kx]at c;have i:=qr p g vs st s;have d:=evS_wid p g vs st s;cases e:j9 p g vs st s with
   | fin u=>rw[e]at c;cases c
   | ok b u=>
     rw[e]at c i d;have c:(if b.1=0 then kx (j9 p g) b.2.2 r u else .ok b u)=.ok a t:=c;have o:=i.2.1;have d:b.2.2.length<=vs.length+1:=d;by_cases j:b.1=0
     .rw[if_pos j]at c
      have:=evLs_room p g r b.2.2 u t a c;omega
     .rw[if_neg j]at c
      injection c with k m;subst k m;omega
theorem sim_B{p:Pr}{K g:Nat}(J:AllR p)(L:SimS p K g){ft:Int}{code:List Ins}{o:List Nat}{r:List Fr}{d:Nat}{lp:Lp}{v:List Int}{m:Nat}{loop:Bool}{frm:Nat}(l:List St)(vars:List Pa)(vs:Vals)(n:Nat)(s:RS)(b:Nat)
 (N:s.fuel<=g) (S:Shp p s) (R:stsOK l (m-1)=true) (M:(zf p ft l vars frm loop n).1=0) (P:yR vs=vars.map (·.name)) (i:Sub code b (jw l b d lp.st lp.br)) (k:Lm K s v vs o) (V:1<=m) (W:o.length+m<=100) (w:lp.n<=vs.length) (O:loop=true->InL lp vs o d):
 Sm p K ⟨s,v,⟨code,b,vs,o⟩::r⟩ (qw (j9 p g) vs l s) (jX lp code (b+qA l d) o v r):=by
 unfold qw;unfold jw gB at i;unfold qA lB;have I:=evLs_goes (fun vs t s=>(qr p g vs t s).le (Nat.zero_le _)) l vs s;by_cases D:xq l=true
 .rw[if_pos D]at i ⊢
  have B:Lm K s v vs (o++[vs.length]):=⟨k.v,k.c,k.vs,Uc⟩
  refine Sm.one (m':=⟨s,v,⟨code,b+1,vs,o++[vs.length]⟩::r⟩) (by rw[yC k i.head];rfl) ?_;refine(sim_Ts J L l vars vs n s (b+1) (m:=m-1) N S R M P i.tail.left B Uc w (fun E=>?_) (fun _ _=>Nat.succ_ne_zero d)).bind fun a t C e=>?_
  .obtain⟨⟨q,A,F,G,H,T⟩⟩:=O E
   refine⟨⟨q++[vs.length],by rw[A,List.append_assoc],by rw[List.length_append,List.length_singleton,F],fun x y=>?_,fun u=>by simp at u,fun x Y u=>?_⟩⟩
   .rcases List.mem_append.1 y with y|y
    .exact G x y
    .rw[List.mem_singleton.1 y];exact w
   .cases q with
    | nil=>simp at u;rw[<-u.1];exact H rfl
    | cons z q=>simp at u;rw[<-u.1];exact T z q rfl
  rw[C]at I;have X:=evLs_room p g l vs s t a C;by_cases j:a.1=0
  .unfold jX at e
   rw[if_pos j]at e;refine Sm.go e ?_;show To p K _ (jX _ _ _ _ _ _ (a.1,a.2.1,a.2.2.take vs.length) t);unfold jX;dsimp only;rw[if_pos j];refine To.one ?_;have U:Lm K t v a.2.2 (o++[vs.length]):=⟨(B.mv I.1).v,(B.mv I.1).c,by have:=k.vs;omega,B.o⟩
   rw[yC U ((i.tail.right (by rw[jL])).head)];show(match (o++[vs.length]).getLast? with|none=>VR.bad|some n=>_)=_;rw[qh];dsimp only;rw[qV,show b+1+lenTs l (d+1)+1=b+(lenTs l (d+1)+2)by omega]
  .rw[<-outV_cut (x:=b+(lenTs l (d+1)+2)) (o:=o) j w]at e
   exact e
 .rw[if_neg D]at i ⊢
  have Q:=let_nil (p:=p) (g:=g) l vs s (by simpa using D);refine(sim_Ts J L l vars vs n s b (m:=m-1) N S R M P i k I7 w O (fun _ E=>absurd E D)).bind fun a t C e=>?_
  rw[C]at Q;obtain⟨q,A,F⟩:=Q;by_cases j:a.1=0
  .have G:=F j
   subst G;rw[List.append_nil]at A;have H:a.2.2.take vs.length=a.2.2:=List.take_of_length_le (Nat.le_of_eq (uF A));rw[H];exact e
  .rw[<-outV_cut (x:=b+lenTs l d) (o:=o) j w]at e
   exact e
theorem sim_W{p:Pr}{K g:Nat}(C:AllR p)(N:SimE p K g)(P:SimS p K g){ft:Int}{vars:List Pa}{e:Ex}{thn:List St}{code:List Ins}{st c j:Nat}{o:List Nat}{r:List Fr}{lp:Lp}{v:List Int}{m n1 frm nv:Nat}
 (H:(qx p vars e).2=0) (U:vJ e 100=true) (W:Sub code st (xp e st)) (aa:c=st+zg e) (y:code[c]? =some (.unl (j+1))) (Q:Sub code (c+1) (jw thn (c+1) 0 st (j+1))) (R:j=c+1+qA thn 0) (A:code[j]? =some (.jmp st))
 (E:stsOK thn (m-1)=true) (D:(zf p ft thn vars frm true n1).1=0) (T:1<=m) (V:o.length+m<=100) (ag:vars.length=nv):
 ∀(k:Nat) (vs:Vals) (s:RS),s.fuel<k->s.fuel<=g->Shp p s->yR vs=vars.map (·.name)->Lm K s v vs o->
   Sm p K ⟨s,v,⟨code,st,vs,o⟩::r⟩ (evW (fun vs s=>yA p g vs e s) (fun vs s=>qw (j9 p g) vs thn s) k vs s) (jX lp code (j+1) o v r)
 | 0,_,_,b,_,_,_,_=>absurd b (Nat.not_lt_zero _)
 | k+1,vs,s,hk,hg,hs,hn,hL=>by
   have S:vs.length=nv:=by have:=congrArg List.length hn;simp[yR]at this;omega
   rw[evW];refine(N e vars vs s 100 v code st o r hg hs H U hn W hL).bind fun a t Y q=>?_
   have x:=qD p g vs e s;have G:=(kM p C g).1 vars vs e s hg hs H;rw[Y]at x G;have B:=hL.mv x.1;have X:=hL.push x.1 x.2.1 a;subst aa
   have ai:To p K ⟨t,v++[a],⟨code,st+zg e,vs,o⟩::r⟩ (.go ⟨t,v,⟨code,if a=0 then j+1 else st+zg e+1,vs,o⟩::r⟩):=To.one (by
    rw[yC X y];show(match (v++[a]).getLast? with|none=>VR.bad|some n=>_)=_;rw[qh];dsimp only;rw[qV];by_cases l:a=0
    .rw[if_pos l,if_pos l]
    .rw[if_neg l,if_neg l])
   have q:=To.go q ai;by_cases l:a=0
   .rw[if_pos l]at q ⊢
    show To p K _ (jX _ _ _ _ _ _ (0,0,vs) t);unfold jX;rw[if_pos rfl];exact q
   rw[if_neg l]at q ⊢;have al:=x.2.1;have af:(Lp.mk st (j+1) nv o).n<=vs.length:=by show nv<=_;omega
   refine(Sm.go q (sim_B C P (ft:=ft) (lp:=⟨st,j+1,nv,o⟩) (m:=m) (loop:=true) (d:=0) (frm:=frm) thn vars vs n1 t (st+zg e+1) I7 G E D hn Q B T V af (fun _=>⟨⟨[],Ia,rfl,Ia,fun _=>S,Ia⟩⟩))).bind fun b u ad i=>?_
   have w:=kJ (fun vs t s=>(qr p g vs t s).le (Nat.zero_le _)) vs thn t;have I:=yP (kM p C g).2 ft thn vars vs frm true n1 t (m-1) I7 G E D
   have ab:∀vs t s,∃d,vH vs d (j9 p g vs t s):=fun vs t s=>by
    obtain⟨k,ak,name,args,thn,els⟩:=t;exact⟨_,evS_nm p g vs k ak name args thn els s⟩
   have F:=evBk_nm ab vs thn t;have J:=evBk_how (evLs_how (fun st vs s v frm n m y A=>evS_how p ft g st vs s v frm true n m y A) thn vs t vars frm n1 (m-1) E D);rw[ad]at w I F J;have ae:b.2.2.length=nv:=(uF F).trans S;have aj:b.2.2.take nv=b.2.2:=List.take_of_length_le (Nat.le_of_eq ae);have O:Lm K u v b.2.2 o:=⟨(B.mv w.1).v,(B.mv w.1).c,by have:=(B.mv w.1).vs;omega,hL.o⟩
   have Z:yR b.2.2=vars.map (·.name):=Eq.trans F hn;have am:=w.1.fuel;unfold jX at i;dsimp only at i;rw[aj]at i;by_cases M:b.1=3
   .rw[if_pos M]
    rw[if_neg I7,if_neg I7,if_neg I7]at i;show To p K _ (jX _ _ _ _ _ _ b u);unfold jX;rw[if_neg I7,if_neg I7,if_neg I7];exact i
   rw[if_neg M];by_cases z:b.1=1
   .rw[if_pos z]
    rw[if_neg I7,if_pos z]at i;show To p K _ (jX _ _ _ _ _ _ (0,0,b.2.2) u);unfold jX;rw[if_pos rfl];exact i
   rw[if_neg z]
   have ah:To p K ⟨s,v,⟨code,st,vs,o⟩::r⟩ (.go ⟨u,v,⟨code,st,b.2.2,o⟩::r⟩):=by
    by_cases L:b.1=0
    .rw[if_pos L]at i
     refine To.go i (To.one ?_);rw[<-R,yC O A];rfl
    .rw[if_neg L,if_neg z,if_pos (by have:=J.1;omega)]at i
     exact i
   exact Sm.go ah (sim_W C N P H U W rfl y Q R A E D T V ag k b.2.2 u I7 I7 I Z O)
theorem genT_beg(t:St)(b d st a:Nat):(kN t b d st a)[0]? =some .beg:=by
 obtain⟨k,c,name,args,thn,els⟩:=t;rw[kN];split
 .rfl
 split
 .rfl
 split
 .rfl
 split
 .rfl
 .rfl
theorem genX_beg(e:Ex)(b:Nat):(xp e b)[0]? =some .beg:=by
 obtain⟨k,op,n,name,args⟩:=e;rw[xp];split <;> rfl
theorem funT_has{p:Pr}{name:ByteArray}(a:(jF p.funcs name).isSome=true):∃f,jH p name=some f:=by
 obtain⟨j,b⟩:=Option.isSome_iff_exists.1 a;cases hg:jH p name with
 | some g=>exact⟨g,rfl⟩
 | none=>
   exfalso;unfold jH at hg;rw[b]at hg
   have d:∀(l:List Fu) (k:Nat),jF l name=some k->k<l.length:=by
    intro l
    induction l with
    | nil=>intro k a;cases a
    | cons x r c=>
      intro k a;rw[jF]at a;split at a
      .injection a with a;subst a;exact Nat.succ_pos _
      .cases hr:jF r name with
       | none=>rw[hr]at a;cases a
       | some j=>rw[hr]at a;injection a with a;have a:j+1=k:=a;have:=c j hr;rw[List.length_cons];omega
   have:=d _ _ b;rw[show(some j).bind (fun k=>p.funcs[k]?)=p.funcs[j]? from rfl,List.getElem?_eq_none_iff]at hg;omega
theorem evPar_nm{f:Fu}{l:List Int}(a:l.length=f.params.length):yR (evPar f l)=f.params.map (·.name):=by
 unfold evPar yR;exact List.map_fst_zip (by simp[a])
theorem evPar_le{f:Fu}{l:List Int}:(evPar f l).length<=l.length:=by
 unfold evPar;rw[List.length_zip];exact Nat.min_le_right _ _
theorem sim_body{p:Pr}{K g:Nat}(c:AllE p)(z:SimS p K g){f:Fu}(o:f∈p.funcs){l:List Int}(C:l.length=f.params.length){t:RS}{v:List Int}{r:List Fr}(B:t.fuel<=g)(D:Shp p t)(y:Lm K t v (evPar f l) []):
 Sm p K ⟨t,v,⟨genF f,0,evPar f l,[]⟩::r⟩ (qw (j9 p g) (evPar f l) f.body t) (fun b u=>retV v r b.2.1 u):=by
 obtain⟨q,w⟩:=c.r f o;have k:∀b u,qw (j9 p g) (evPar f l) f.body t=.ok b u->b.1=3:=fun b u e=>body_three w q (c.e f o) e
 unfold qw at k ⊢;refine(sim_Ts c.r z (lp:=⟨0,0,0,[]⟩) (d:=0) (m:=100) (loop:=false) (frm:=f.params.length) (ft:=f.type) f.body f.params (evPar f l) 0 t 0 B D w q (evPar_nm C) (fun i x b=>by rw[Nat.zero_add];exact b) y Ia (Nat.zero_le _) (fun b=>IB) (fun b=>IB)).bind fun a u A j=>?_
 have E:a.1=3:=k (a.1,a.2.1,a.2.2.take (evPar f l).length) u (by rw[A];rfl);unfold jX at j;rw[if_neg I7,if_neg I7,if_neg I7]at j;exact j
theorem node_has{p:Pr}{vars:List Pa}{vs:Vals}{k:Int}{name:ByteArray}(d:yR vs=vars.map (·.name))(b:yY p vars k name=true):¬((k=3/\kB vs name=none)\/(k=6/\zb p.arrays name=none)):=by
 rintro(⟨rfl,c⟩|⟨rfl,c⟩)
 .unfold yY at b
  have a:(kI vars name).isSome=true:=Ih
  rw[<-varT_at d,c]at a;cases a
 .unfold yY at b
  have a:(zb p.arrays name).isSome=true:=Ih
  rw[c]at a;cases a
theorem simE_step{p:Pr}{K g:Nat}(Q:AllE p)(W:SimE p K g)(hS:SimS p K g):SimE p K (g+1):=by
 intro x vars vs s m v code b o r hg hs ht q T i R;have J:code[b]? =some .beg:=i 0 _ (genX_beg x b);obtain⟨k,op,n,name,args⟩:=x;obtain⟨hh,hf,ts,ag⟩:=typE_parts ht;have z:=typEs_mem ag;rw[kf,Bool.and_eq_true,Bool.and_eq_true,decide_eq_true_eq]at q;rw[yA];have P:=yC (p:=p) (r:=r) R J;have ah:xP p .beg s v ⟨code,b+1,vs,o⟩ r=match qI s with | .ok _ t=>.go ⟨t,v,⟨code,b+1,vs,o⟩::r⟩ | .fin t=>.stop none t:=rfl
 rw[ah]at P;have L:=yu hs;cases hst:qI s with
 | fin t=>
   rw[hst]at P;exact To.one P
 | ok _ t=>
   rw[hst]at P L;have hp:=yM hst;have S:Shp p t:=L;have j:Lm K t v vs o:=R.mv hp.mv;have C:t.fuel<=g:=by have:=hp.fuel;omega
   refine Sm.one P ?_;show Sm p K _ (if k=5/\(op=18\/op=19)then(yA p g vs (args.getD 0 jz) t).bind _ else(evL (yA p g vs) args t).bind _) _;rw[xp]at i;by_cases Y:k=5/\(op=18\/op=19)
   .rw[if_pos Y]at i ⊢
    obtain⟨rfl,ae⟩:=Y;have M:args.length=2:=formE_two q.1.2
    obtain⟨a0,a1,rfl⟩:∃a0 a1,args=[a0,a1]:=by
     match args,M with
     | [a0,a1],_=>exact⟨a0,a1,rfl⟩
    rw[genZ,zv,zv,List.append_nil]at i;rw[qb,qb,Bool.and_eq_true,Bool.and_eq_true]at q;have e0:([a0,a1]:List Ex).getD 0 jz=a0:=rfl;have e1:([a0,a1]:List Ex).getD 1 jz=a1:=rfl;rw[e0,e1];have t0:=z a0 Ia;have t1:=z a1 Ia;refine(W a0 vars vs t (m-1) v code (b+1) o r C S t0 q.2.1 T i.tail.left j).bind fun a u ha D=>?_
    have A:=qD p g vs a0 t;have G:=(kM p Q.r g).1 vars vs a0 t C S t0;rw[ha]at A G;have hz:=(i.tail.right (c:=b+1+zg a0) (by rw[xH]))
    have d:=yC (p:=p) (r:=r) (j.push A.1 A.2.1 a) hz.head
    have I:xP p (.lzy (decide (op=18)) (b+1+zg a0+1+zE [a1])) u (v++[a]) ⟨code,b+1+zg a0+1,vs,o⟩ r=if decide (a=0)=decide (op=18)then .go ⟨u,v++[a],⟨code,b+1+zg a0+1+zE [a1],vs,o⟩::r⟩else .go ⟨u,v,⟨code,b+1+zg a0+1,vs,o⟩::r⟩:=by
     show(match (v++[a]).getLast? with|none=>VR.bad|some n=>_)=_;rw[qh];dsimp only;rw[qV]
    rw[I]at d;have H:b+1+zg a0+1+zE [a1]=b+zg (.mk 5 op n name [a0,a1]):=by simp only[zg,zE];omega
    have E:(decide (a≠0)=decide (op=19))↔(decide (a=0)=decide (op=18)):=by
     rcases ae with rfl|rfl <;> by_cases h0:a=0 <;> simp[h0]
    by_cases U:decide (a=0)=decide (op=18)
    .rw[if_pos (E.2 U)]
     rw[if_pos U,H]at d;exact To.go D (To.one d)
    .rw[if_neg (fun h=>U (E.1 h))]
     rw[if_neg U]at d;refine Sm.go (To.go D (To.one d)) ((W a1 vars vs u (m-1) v code (b+1+zg a0+1) o r (by have:=A.2.1;omega) G t1 q.2.2.1 T hz.tail (j.mv A.1)).imp fun c w _=>?_);rw[show b+1+zg a0+1+zg a1=b+zg (.mk 5 op n name [a0,a1])by simp only[zg,zE];omega]
   .rw[if_neg Y]at i ⊢
    refine(sim_L Q.r W T args t v (b+1) C S z q.2 i.tail.left j).bind fun l u hl D=>?_
    have N:=evL_len hl;have aw:=evL_fuel (fun e s=>qD p g vs e s) hl;have A:=evL_goes (fun e s=>(qD p g vs e s).le (Nat.zero_le _)) args t;have G:=evL_fine (p:=p) (g:=g) (fun x s=>(qD p g vs x s).le (Nat.zero_le _)) args t C S fun y hy s h3 h4=>(kM p Q.r g).1 vars vs y s h3 h4 (z y hy)
    rw[hl]at A G;have G:Shp p u:=G;have X:Lm K u (v++l) vs o:=⟨by have:=j.v;rw[List.length_append];omega,(j.mv A.1).c,(j.mv A.1).vs,R.o⟩
    have hi:=(i.tail.right (c:=b+1+zE args) (by rw[qZ])).head;have d:=yC (p:=p) (r:=r) X hi;obtain⟨d1,d2⟩:=drop_app v l;rw[N]at d1 d2;have H:b+1+zE args+1=b+zg (.mk k op n name args):=by rw[zg];omega
    have I:xP p (.app (.mk k op n name args)) u (v++l) ⟨code,b+1+zE args+1,vs,o⟩ r=vmApp p k op n name args.length u (v++l) ⟨code,b+1+zE args+1,vs,o⟩ r:=rfl;rw[I]at d;unfold vmApp at d;rw[if_neg (fun h=>h.elim (fun h=>by rw[List.length_append]at h;omega) (fun h=>by rw[q.1.2]at h;cases h)),d1,d2,H]at d;refine Sm.go D ?_;by_cases V:k=7
    .subst V
     rw[if_pos rfl]at d;obtain⟨f,B⟩:=funT_has (p:=p) (name:=name) (by unfold yY at hh;simpa using hh)
     have F:f.params.length=args.length:=by
      unfold yl at hf;rw[if_pos rfl,B]at hf;exact(of_decide_eq_true hf).symm
     rw[B]at d;dsimp only at d;rw[if_pos F]at d
     have Z:(zT u).cost+(zT u).fuel<=K:=by
      have h1:=hp.pay;have h2:=A.1.pay;have h3:=R.c;show u.cost+1+u.fuel<=K;omega
     refine Sm.one d ?_;rw[evNode_fun _ _ _ _ _ _ _ _ B];refine(sim_body Q hS (uq B) (N.trans F.symm) (t:=zT u) (v:=v) (r:=⟨code,b+zg (.mk 7 op n name args),vs,o⟩::r) (by show u.fuel<=g;omega) G.pay ⟨by have:=j.v;show v.length+u.fuel<=K;omega,Z,?_,Ia⟩).bind fun h w _ O=>O
     have:=evPar_le (f:=f) (l:=l);have:=j.v;show(evPar f l).length+u.fuel<=K;omega
    .rw[if_neg V,if_neg (node_has T hh)]at d
     rw[evNode_any p _ (fun _ _ s=>.fin s) vs op n name l u V];cases he:zw p (fun _ _ s=>.fin s) vs k op n name l u with
     | ok a w=>rw[he]at d;exact To.one d
     | fin w=>rw[he]at d;exact To.one d
theorem formS_one{k g:Int}{name:ByteArray}{a b c:Nat}{d:Bool}(e:zr k g name a b c d=true)(i:k≠3/\k≠6/\k≠7):a=1:=by
 unfold zr at e;split at e
 .simp at e;omega
 split at e
 .simp at e;omega
 split at e
 .omega
 split at e
 .simp at e;omega
 split at e
 .simp at e;omega
 split at e
 .omega
 split at e
 .simp at e;omega
 split at e
 .simp at e;omega
 .cases e
theorem formS_two{g:Int}{name:ByteArray}{a b c:Nat}{d:Bool}(e:zr 3 g name a b c d=true):a=2:=by
 unfold zr at e;rw[if_neg I8,if_neg I8,if_pos rfl]at e;simp at e;omega
theorem sfS_nm{k i:Int}{name:ByteArray}{a b c:Nat}{d:Bool}(e:zr k i name a b c d=true)(g:k=1\/k=2\/k=3):vd name=true:=by
 unfold zr at e;rcases g with rfl|rfl|rfl <;> simp at e <;> simp[e]
theorem Sm.jmp{p:Pr}{K:Nat}{m:Vm}{x:Res yL}{lp:Lp}{code:List Ins}{j e:Nat}{o:List Nat}{v:List Int}{r:List Fr}(b:Sm p K m x (jX lp code j o v r))(g:code[j]? =some (.jmp e))(d:∀a t,x=.ok a t->Lm K t v a.2.2 o):Sm p K m x (jX lp code e o v r):=by
 cases x with
 | fin t=>exact b
 | ok a t=>
   have b:To p K m (jX lp code j o v r a t):=b;show To p K m (jX lp code e o v r a t);unfold jX at b ⊢;by_cases c:a.1=0
   .rw[if_pos c]at b ⊢
    refine To.go b (To.one ?_);rw[yC (d a t rfl) g];rfl
   .rw[if_neg c]at b ⊢
    exact b
theorem simS_step{p:Pr}{K g:Nat}(hA:AllE p)(hE:SimE p K g)(hS:SimS p K g):SimS p K (g+1):=by
 intro st ft vars vs frm loop n s m v code b o r d lp hg hs A hc V i hL Y ap U;have ak:code[b]? =some .beg:=i 0 _ (genT_beg st b d lp.st lp.br);obtain⟨k,ty,name,args,thn,els⟩:=st;obtain⟨X,⟨n1,ht⟩,n2,hl⟩:=chkS_loops hc;rw[kH]at A;simp only[Bool.and_eq_true,decide_eq_true_eq]at A;have hk:=evKind A.1.1.1.2;have hm:=A.1.1.1.1;rw[j9];have hv:=yC (p:=p) (r:=r) hL ak;have aR:xP p .beg s v ⟨code,b+1,vs,o⟩ r=match qI s with | .ok _ t=>.go ⟨t,v,⟨code,b+1,vs,o⟩::r⟩ | .fin t=>.stop none t:=rfl
 rw[aR]at hv;have al:=yu hs;cases hst:qI s with
 | fin t=>
   rw[hst]at hv;exact To.one hv
 | ok _ t=>
   rw[hst]at hv al;have hp:=yM hst;have hT:Shp p t:=al;have B:Lm K t v vs o:=hL.mv hp.mv;have S:t.fuel<=g:=by have:=hp.fuel;omega
   refine Sm.one hv ?_;show Sm p K _ (if k=5 then _ else if k=6 then _ else if k=7 then _ else _) _;have aN:vars.length=vs.length:=by have:=congrArg List.length V;simp[yR]at this;omega
   have ar:k≠1->j8 k ty name vars=vars:=fun h=>by unfold j8;rw[if_neg h]
   by_cases h5:k=5
   .subst h5
    obtain⟨e,rfl⟩:∃e,args=[e]:=by
     have:=formS_one A.1.1.1.2 I8
     match args,this with
     | [e],_=>exact⟨e,rfl⟩
    rw[if_pos rfl];have G:=own_arg X I8 I8 I8;rw[kN,if_neg I8,if_pos rfl]at i;rw[kn,if_neg I8,if_pos rfl];rw[ar I8]at ht;rw[show(loop || decide ((5 :Int)=5))=true by simp]at ht;rw[qb,Bool.and_eq_true]at A
    have hx:Sub code (b+1) (xp e (b+1)):=by
     have:=i.tail.left;rw[zv,zv,List.append_nil]at this;exact this
    have C:zE [e]=zg e:=by rw[zE,zE];rfl
    rw[C]at i ⊢;have hu:=i.tail.right (c:=b+1+zg e) (by rw[qZ,C]);have F:=hu.tail
    have hw:=sim_W (lp:=lp) hA.r hE hS (vars:=vars) (e:=e) (thn:=thn) (code:=code) (st:=b+1) (c:=b+1+zg e) (j:=b+zg e+2+qA thn 0) (o:=o) (r:=r) (v:=v) (m:=m) (frm:=vars.length) (ft:=ft) G.1 A.1.1.2.1 hx rfl
     (by rw[show b+zg e+2+qA thn 0+1=b+zg e+3+lB thn (lenTs thn) 0 by unfold qA;omega];exact hu.head)
     (by rw[show b+zg e+2+qA thn 0+1=b+zg e+3+lB thn (lenTs thn) 0 by unfold qA;omega,show b+1+zg e+1=b+zg e+2 by omega];have h9:=F.left;rw[show b+1+zg e+1=b+zg e+2 by omega]at h9;exact h9) I7
     ((F.right (c:=b+zg e+2+qA thn 0) U7).head) A.1.2 ht hm Y aN (t.fuel+1) vs t (Nat.lt_succ_self _) S hT V B
    rw[show b+zg e+2+qA thn 0+1=b+(zg e+3+lB thn (lenTs thn) 0)by unfold qA;omega]at hw;exact hw
   rw[if_neg h5];by_cases ai:k=6\/k=7
   .have aL:=own_loop X ai
    subst aL;obtain⟨⟨q,q1,q2,q3,q4,q5⟩⟩:=U rfl
    have az:∀z,Sub code b (Ins.beg::(List.replicate d Ins.lve++[Ins.jmp z]))->To p K ⟨t,v,⟨code,b+1,vs,o⟩::r⟩ (.go ⟨t,v,⟨code,z,vs.take lp.n,lp.o⟩::r⟩):=fun z hz=>by
     have h1:=sim_leaves (p:=p) (K:=K) (s:=t) (v:=v) (r:=r) (lo:=lp.o) (n:=lp.n) d q vs (b+1) hz.tail.left (q1 ▸ B) q2 q3 (fun h=>Nat.le_of_eq (q4 h)) q5;rw[<-q1]at h1;have aG:Lm K t v (vs.take lp.n) lp.o:=⟨B.v,B.c,by have:=B.vs;rw[List.length_take];omega,by have:=B.o;rw[q1,List.length_append]at this;omega⟩
     refine To.go h1 (To.one ?_);rw[yC aG ((hz.tail.right (c:=b+1+d) (by rw[List.length_replicate])).head)];rfl
    by_cases h6:k=6
    .subst h6
     rw[if_pos rfl];rw[kN,if_neg I8,if_neg I8,if_pos rfl]at i;show To p K _ (jX _ _ _ _ _ _ (1,0,vs) t);unfold jX;rw[if_neg (show ¬(1 :Int)=0 by decide),if_pos rfl];exact az _ i
    .have h7:k=7:=by omega
     subst h7;rw[if_neg I8,if_pos rfl];rw[kN,if_neg I8,if_neg I8,if_neg I8,if_pos rfl]at i;show To p K _ (jX _ _ _ _ _ _ (2,0,vs) t);unfold jX;rw[if_neg (show ¬(2 :Int)=0 by decide),if_neg (show ¬(2 :Int)=1 by decide),if_pos rfl];exact az _ i
   rw[if_neg I7,if_neg I7];have G:=own_arg X I7 I7 I7
   have R:∃e q,args=e::q:=by
    cases args with
    | nil=>
      have h9:zr k ty name 0 thn.length els.length (uL [])=true:=A.1.1.1.2;by_cases P:k=3
      .subst P;have:=formS_two h9;omega
      .have:=formS_one h9 ⟨P,I7,I7⟩;omega
    | cons e q=>exact⟨e,q,rfl⟩
   obtain⟨e,q,rfl⟩:=R;have N:(qx p vars e).2=0:=G.1;rw[qb,Bool.and_eq_true]at A
   have Z:Sub code (b+1) (zv (e::q) (b+1)):=by
    by_cases Q:k=4
    .rw[kN,if_pos Q]at i
     exact i.tail.left
    .rw[kN,if_neg Q,if_neg h5,if_neg I7,if_neg I7]at i
     exact i.tail.left
   show Sm p K _ ((yA p g vs e t).bind _) _;rw[zv]at Z;refine(hE e vars vs t 100 v code (b+1) o r S hT N A.1.1.2.1 V Z.left B).bind fun a u ha I=>?_
   have g1:=qD p g vs e t;have g2:=(kM p hA.r g).1 vars vs e t S hT N;rw[ha]at g1 g2;have g2:Shp p u:=g2;have H:=B.mv g1.1;have M:=B.push g1.1 g1.2.1 a;have T:u.fuel<=g:=by have:=g1.2.1;omega
   have W:k=1\/k=2\/k=3->¬(k<=3/\vd name=false):=fun h h2=>by rw[sfS_nm A.1.1.1.2 h]at h2;cases h2.2
   by_cases Q:k=4
   .subst Q
    have hq:q=[]:=by have:=formS_one A.1.1.1.2 I8;exact List.eq_nil_of_length_eq_zero QW
    subst hq;rw[if_neg I8,if_neg I8,if_neg I8,if_pos rfl];rw[kN,if_pos rfl]at i;rw[kn,if_pos rfl];rw[ar I8]at ht hl;rw[show(loop || decide ((4 :Int)=5))=loop by simp]at ht;have C:zE [e]=zg e:=by rw[zE,zE];rfl
    rw[C]at i ⊢;have hu:=i.tail.right (c:=b+1+zg e) (by rw[qZ,C]);have O:=yC (p:=p) (r:=r) M hu.head
    have J:xP p (.unl (b+zg e+3+lB thn (lenTs thn) d)) u (v++[a]) ⟨code,b+1+zg e+1,vs,o⟩ r=.go ⟨u,v,⟨code,if a=0 then b+zg e+3+lB thn (lenTs thn) d else b+zg e+2,vs,o⟩::r⟩:=by
     show(match (v++[a]).getLast? with|none=>VR.bad|some n=>_)=_;rw[qh];dsimp only;rw[qV];by_cases L:a=0
     .rw[if_pos L,if_pos L]
     .rw[if_neg L,if_neg L,show b+1+zg e+1=b+zg e+2 by omega]
    rw[J]at O;have I:=To.go I (To.one O);have F:=hu.tail;rw[show b+1+zg e+1=b+zg e+2 by omega]at F;have hj:=F.right (c:=b+zg e+2+qA thn d) U7;refine Sm.go I ?_;by_cases L:a=0
    .rw[if_pos L,if_neg (by simpa using L)]
     refine(sim_B hA.r hS (ft:=ft) (lp:=lp) (m:=m) (loop:=loop) (d:=d) (frm:=vars.length) els vars vs n2 u (b+zg e+3+lB thn (lenTs thn) d) T g2 A.2 hl V ?_ H hm Y ap U).imp fun h w _=>?_
     .have:=hj.tail
      rw[show b+zg e+2+qA thn d+1=b+zg e+3+lB thn (lenTs thn) d by unfold qA;omega]at this;exact this
     .rw[show b+zg e+3+lB thn (lenTs thn) d+qA els d=b+(zg e+3+lB thn (lenTs thn) d+lB els (lenTs els) d)by unfold qA;omega]
    .rw[if_neg L,if_pos (by simpa using L)]
     have hB:=sim_B hA.r hS (ft:=ft) (lp:=lp) (m:=m) (loop:=loop) (d:=d) (frm:=vars.length) (r:=r) thn vars vs n1 u (b+zg e+2) T g2 A.1.2 ht V F.left H hm Y ap U;have ao:=hj.head;rw[show b+zg e+3+lB thn (lenTs thn) d+lB els (lenTs els) d=b+(zg e+3+lB thn (lenTs thn) d+lB els (lenTs els) d)by omega]at ao;refine hB.jmp ao fun h w hh=>?_
     have b1:=kJ (fun vs t s=>(qr p g vs t s).le (Nat.zero_le _)) vs thn u
     have b3:=evBk_nm (fun vs t s=>by
      obtain⟨k,ty,name,args,thn,els⟩:=t
      exact⟨_,evS_nm p g vs k ty name args thn els s⟩) vs thn u
     rw[hh]at b1 b3;have ba:h.2.2.length=vs.length:=uF b3;exact⟨(H.mv b1.1).v,(H.mv b1.1).c,by have:=(H.mv b1.1).vs;omega,hL.o⟩
   rw[kN,if_neg Q,if_neg h5,if_neg I7,if_neg I7]at i;have aq:kn (.mk k ty name (e::q) thn els) d=zE (e::q)+2:=by rw[kn,if_neg Q,if_neg h5,if_neg ai]
   rw[aq];have E:=(i.tail.right (c:=b+1+zE (e::q)) (by rw[qZ])).head;rw[show b+(zE (e::q)+2)=b+1+zE (e::q)+1 by omega];by_cases P:k=3
   .subst P
    have h2:q.length=1:=by have:=formS_two A.1.1.1.2;simpa using this
    obtain⟨D,rfl⟩:∃D,q=[D]:=by
     match q,h2 with
     | [D],_=>exact⟨D,rfl⟩
    rw[if_neg I8,if_neg I8,if_pos rfl];have ay:=Z.right (c:=b+1+zg e) (by rw[xH]);rw[zv,zv,List.append_nil]at ay;have aP:(qx p vars D).2=0:=G.2.1 rfl
    have au:vJ D 100=true:=by
     have:=A.1.1.2.2;rw[qb,Bool.and_eq_true]at this;exact this.1
    refine Sm.go I ?_;show Sm p K _ ((yA p g vs D u).bind _) _;refine(hE D vars vs u 100 (v++[a]) code (b+1+zg e) o r T g2 aP au V ay M).bind fun x w hx av=>?_
    have w1:=qD p g vs D u;rw[hx]at w1;have aH:=M.push w1.1 w1.2.1 x;refine Sm.go av ?_;rw[show b+1+zE [e,D]=b+1+zg e+zg D by simp only[zE];omega]at E ⊢;have l:=yC (p:=p) (r:=r) aH E
    have am:(zb p.arrays name).isSome=true:=by
     unfold kw at X;rw[if_neg I8,if_neg I8,if_pos rfl]at X;by_cases hi:(zb p.arrays name).isSome=true
     .exact hi
     .rw[if_neg hi]at X;exact absurd X I8
    have an:zb p.arrays name≠none:=fun h=>by rw[h]at am;cases am
    have J:xP p (.fin (.mk 3 ty name [e,D] thn els)) w (v++[a]++[x]) ⟨code,b+1+zg e+zg D+1,vs,o⟩ r=match kY p name a x (zT w)with | .ok _ t=>.go ⟨t,v,⟨code,b+1+zg e+zg D+1,vs,o⟩::r⟩ | .fin t=>.stop none t:=by
     show vmFin p 3 name w (v++[a]++[x]) _ r=_;unfold vmFin;rw[qh];dsimp only;rw[if_neg (W (.inr (.inr rfl))),if_neg I8,if_neg I8,if_pos rfl,qV,qh];dsimp only;rw[if_neg an,qV];cases kY p name a x (zT w) <;> rfl
    rw[J]at l;cases hput:kY p name a x (zT w)with
    | fin y=>rw[hput]at l;exact To.one l
    | ok _ y=>
      rw[hput]at l;show To p K _ (jX _ _ _ _ _ _ (0,0,vs) y);unfold jX;rw[if_pos rfl];exact To.one l
   have h1:(e::q).length=1:=formS_one A.1.1.1.2 ⟨P,I7,I7⟩;have hq:q=[]:=List.eq_nil_of_length_eq_zero (by simpa using h1);subst hq;refine Sm.go I ?_;rw[show b+1+zE [e]=b+1+zg e by rw[zE,zE];rfl]at E ⊢;have l:=yC (p:=p) (r:=r) M E;have J:xP p (.fin (.mk k ty name [e] thn els)) u (v++[a]) ⟨code,b+1+zg e+1,vs,o⟩ r=vmFin p k name u (v++[a]) ⟨code,b+1+zg e+1,vs,o⟩ r:=rfl;rw[J]at l;unfold vmFin at l;rw[qh]at l;dsimp only at l;rw[qV]at l;by_cases k1:k=1
   .rw[if_neg (W (.inl k1)),if_pos k1]at l
    rw[if_pos k1];show To p K _ (jX _ _ _ _ _ _ (0,0,_) u);unfold jX;rw[if_pos rfl];exact To.one l
   by_cases k2:k=2
   .obtain⟨tv,aQ⟩:=G.2.2 k2
    have aK:kB vs name≠none:=fun h=>by
     have:=varT_at V name;rw[h,aQ]at this;cases this
    rw[if_neg (W (.inr (.inl k2))),if_neg k1,if_pos k2,if_neg aK]at l;rw[if_neg k1,if_pos k2];show To p K _ (jX _ _ _ _ _ _ (0,0,_) u);unfold jX;rw[if_pos rfl];exact To.one l
   rw[if_neg I7,if_neg k1,if_neg k2,if_neg P]at l;rw[if_neg k1,if_neg k2,if_neg P,if_neg Q];by_cases k8:k=8
   .rw[if_pos k8]at l ⊢
    show To p K _ (jX _ _ _ _ _ _ (3,a,_) u);unfold jX;rw[if_neg (by show ¬(3 :Int)=0;decide),if_neg (by show ¬(3 :Int)=1;decide),if_neg (by show ¬(3 :Int)=2;decide)];exact To.one l
   by_cases k9:k=9
   .rw[if_neg k8,if_pos k9]at l ⊢
    show To p K _ (jX _ _ _ _ _ _ (0,0,_) _);unfold jX;rw[if_pos rfl];exact To.one l
   .rw[if_neg k8,if_neg k9]at l ⊢
    rw[if_pos I7]at l;show To p K _ (jX _ _ _ _ _ _ (0,0,_) u);unfold jX;rw[if_pos rfl];exact To.one l
theorem sim_all{p:Pr}(a:AllE p)(K:Nat):∀g,SimE p K g/\SimS p K g
 | 0=>⟨fun x vars vs s m v code b o r q u _ _ _ i c=>by
    rw[yA];have e:s.fuel=0:=I7
    have j:=yC (p:=p) (r:=r) c (i 0 _ (genX_beg x b));refine To.one (j.trans ?_);show(match qI s with | .ok _ t=>VR.go _ | .fin t=>.stop none t)=_;unfold qI;rw[e],fun st ft vars vs frm loop n s m v code b o r d lp q u _ _ _ i c _ _ _=>by
    rw[j9];have e:s.fuel=0:=I7
    have j:=yC (p:=p) (r:=r) c (i 0 _ (genT_beg st b d lp.st lp.br));refine To.one (j.trans ?_);show(match qI s with | .ok _ t=>VR.go _ | .fin t=>.stop none t)=_;unfold qI
    rw[e]⟩
 | g+1=>by
   obtain⟨k,l⟩:=sim_all a K g;exact⟨simE_step a k l,simS_step a k l⟩
end Go.Proofs.YthcmenajdcbnnaaGreatDoor
