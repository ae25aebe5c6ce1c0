import Derived.Test.YthcmenajdcbnnaaGreatDoorAlEvMf
import Derived.Shelf.SlMaps.Clone
import Derived.Stop.Asserts
set_option linter.unusedSimpArgs false
set_option linter.unusedVariables false
set_option maxRecDepth 100000
set_option maxHeartbeats 99000000
namespace Go.Proofs.YthcmenajdcbnnaaGreatDoor
open Go.RowKit Tryz Go.Maps
theorem Qn{p:Prop}(h:p:=by
 unfold yE at a;dsimp only at a;split at a
 .cases a
 .injection a with a;rw[<-a]):p:=h
theorem UC:(Tryz.prog.info? 163).map (fun i=>(i.zero,i.size,i.bytes))=some (some (.map none),1,8):=by kernel_rfl
theorem HA(m k:Nat)(f:C3->C5)(w:C4)(p:fZ w m k (.pointer none) f):
 Cz 98 #[.map (some m)] w fun e w'=>e=.returned (.map (some w.heap.size))/\fZ w' w.heap.size k (.pointer none) f/\Cy w w'/\w'.heap.size=w.heap.size+1:=by
 obtain⟨j,⟨b,a,g,F,i,c⟩,d⟩:=p;have l:=U g;have q:=fun w=>run_eql_map_nil_sl (P:=Tryz.prog) w 163 _ _ (some m) underlying163
 have n:=C2 (fZ (w.alloc (.map b a)) w.heap.size k (.pointer none) f) ⟨j,⟨b,a,(MapKept.heap_alloc w _).1,F,i,c⟩,d⟩;clear g F i c d;go_enter func98,ntmps98;go_wp2;rw[run_callFunc_extern func118 (by kernel_rfl) (by kernel_rfl) (by kernel_rfl) (e:=Extern.MapsClone.clone) (by kernel_rfl),run_maps_clone_sl w 163 l.o];simp only[Result.andThen];rw[Oper.upon_value];go_wp2;rw[run_typeAssert_map_sl _ 163 20 _ _ _ underlying163];simp only[Result.andThen];rw[Oper.upon_value];go_wp2;go_ret;exact⟨rfl,n.o,(D4 _ w).alloc Zr _,zA _ _⟩
theorem gD.enter{G:Gm}{τ:Nat->Lb}{w:C4}{m:Vm}{ab vv vo:C5}{a:Nat}(u:gD G τ w m ab vv (.pointer (some ⟨a,0,none⟩)) vo){c:Fr}{r:List Fr}{p t g:C5}{mp:Nat}{tm n:List Nat}(f:rK G.B τ w r.length a p c t mp g tm n)(V:HY G.B τ w p r)
 {W w8 w9:C4} {v':C5} {mp':Nat} (i:Cy w W) (q:W.grownBy w8 g.ownBlock) (Y:kn W g v') (F:w8.ownsRow G.B 163 1 v' (c.o.length+1) (n.map (fun m=>Value.map (some m))++[.map (some mp)]))
 (l:Below (w8.setCell (a,3) v').heap.size (w8.setCell (a,3) v') w9) (_:mp'=w8.heap.size) (S:fZ w9 mp' c.vs.length (.pointer none) (gE c.vs tm)):
 (∃τ,MW G τ (w9.setCell (a,2) (.map (some mp'))) ⟨m.s,m.v,{ c with o:=c.o++[c.vs.length] } :: r⟩)/\Below G.B w (w9.setCell (a,2) (.map (some mp'))):=by
 obtain⟨τ1,A,D⟩:=F6 i.size Y f.rol;have ae:=i.size;have af:W.heap.size<=w8.heap.size:=q.size;have ah:(w8.setCell (a,3) v').heap.size=w8.heap.size:=Uk
 have ag:w8.heap.size<=w9.heap.size:=Jy
 have E:=zB f.box;have I:∀b,v'.ownBlock=some b->b<w8.heap.size:=fun b j=>(zT F b j).1
 have K:fF (fun k=>XE r.length (τ k)) w w8:=((fF.wb (fun k=>XE r.length (τ k)) i).trans (fF.grown (X:=fun k=>g.ownBlock=some k) q fun k d=>d) fun k _ d=>.inr (f.rol k d))
 have L:fF (fun k=>XE r.length (τ k)) w (w8.setCell (a,3) v'):=K.trans (fF.set (X:=fun k=>k=a) w8 rfl 3 v') fun k _ (d:k=a)=>.inl (by rw[d];exact f.lab)
 have M:fF (fun k=>XE r.length (τ k)) w w9:=L.trans (fF.wb (fun _=>False) l) fun k _ d=>d.elim
 have x:fF (fun k=>XE r.length (τ k)) w (w9.setCell (a,2) (.map (some mp'))):=M.trans (fF.set (X:=fun k=>k=a) w9 rfl 2 _) fun k _ (d:k=a)=>.inl (by rw[d];exact f.lab)
 have y:fF (fun k=>XD r.length (τ k)) w (w9.setCell (a,2) (.map (some mp'))):=x.mono fun k _ d=>by
  rcases d with d|d
  .exact .inl d
  .exact .inr (.inl d)
 have Q:=u.below (X:=XD r.length) y (lH _).1;have Z:g.ownBlock≠some a:=fun e=>by have:=f.rol a e;rw[f.lab]at this;cases this
 have aa:v'.ownBlock≠some a:=fun e=>by
  have:=D a e;rw[A a E,f.lab]at this;cases this
 have N:w8.heap[a]?=some (F5 t c.pl mp g p):=((q.block a O fun e=>Z e.symm).trans (i.block a E)).trans f.box;have P:w9.heap[a]?=some (F5 t c.pl mp v' p):=(l.block a O).trans (D3 N _);have T:mp'≠a:=O
 have z:gP τ (SM τ1 mp' (.vmap r.length (c.o.length+1))) w:=fun k d=>(zAi τ1 _ O).trans (A k d)
 have R:=f.enter (τ':=SM τ1 mp' (.vmap r.length (c.o.length+1))) (mp':=mp') (vo':=v') Q x z (D3 P _) ?_ (fun b j=>(zAi τ1 _ (by have:=I b j;omega)).trans (D b j)) (zAh _ _ _) (S.wd (Dw w9 _ _ mp' T))
 .have H:=u.top rfl y z V R
  exact⟨⟨_,_,_,_,_,H.1⟩,H.2⟩
 .have J:(n++[mp]).map (fun m=>Value.map (some m))=n.map (fun m=>Value.map (some m))++[.map (some mp)]:=by simp
  rw[J];refine zQ F fun k d=>?_
  have ad:=I k d;have C:k≠a:=fun e=>aa (e▸d)
  exact((Dw w9 _ _ k C).trans (l.block k O)).trans (Dw w8 _ _ k C)
theorem gD.leave{G:Gm}{τ:Nat->Lb}{w:C4}{m:Vm}{E vv vo:C5}{a:Nat}(j:gD G τ w m E vv (.pointer (some ⟨a,0,none⟩)) vo){c:Fr}{r:List Fr}{C M:C5}{mp g i:Nat}{tm A:List Nat}{q:List Nat}{n:Nat}(t:c.o=q++[n])(d:rK G.B τ w r.length a C c M mp (.slice (some ⟨g,0,none⟩) (q.length+1) i) tm A)(K:HY G.B τ w C r){D:List Nat}{l:Nat}(p:A=D++[l]):
 gD G τ ((w.setCell (a,2) (.map (some l))).setCell (a,3) (.slice (some ⟨g,0,none⟩) q.length i)) ⟨m.s,m.v,{ c with vs:=c.vs.take n,o:=q } :: r⟩ E vv (.pointer (some ⟨a,0,none⟩)) vo/\Below G.B w ((w.setCell (a,2) (.map (some l))).setCell (a,3) (.slice (some ⟨g,0,none⟩) q.length i)):=by
 have u:fF (fun k=>XE r.length (τ k)) w ((w.setCell (a,2) (.map (some l))).setCell (a,3) (.slice (some ⟨g,0,none⟩) q.length i)):=
  (fF.set (X:=fun k=>XE r.length (τ k)) w (.inl d.lab) 2 _).trans (fF.set (X:=fun k=>XE r.length (τ k)) _ (.inl d.lab) 3 _) fun _ _ j=>j
 have x:=u.mono (Y:=fun k=>XD r.length (τ k)) fun k _ f=>by
  rcases f with f|f
  .exact .inl f
  .exact .inr (.inl f)
 have H:=j.below (X:=XD r.length) x (lH _).1;have L:g≠a:=fun e=>by have:=d.rol g rfl;rw[e,d.lab]at this;cases this
 have J:D.length=q.length:=by have:=d.ml;rw[t,p]at this;simp at this;omega
 have z:=d.row;rw[p,show c.o.length=q.length+1 by rw[t];simp]at z;have hcut:=CY z (m:=q.length) O;rw[Nat.mul_one,Yj,List.take_left' (by rw[Yh,J])]at hcut
 have I:=d.leave (vo':=.slice (some ⟨g,0,none⟩) q.length i) H u t p (D3 (D3 d.box _) _) (zQ hcut fun k f=>by
  have f:g=k:=by injection f
  have y:k≠a:=fun e=>L (f.trans e)
  exact(Dw _ _ _ k y).trans (Dw _ _ _ k y)) (fun b F=>d.rol b F)
 exact j.top rfl x (gP.refl τ w) K I
theorem O6{G:Gm}{τ:Nat->Lb}{w:C4}{m:Vm}(a3:MW G τ w m){c:Fr}{r:List Fr}(ah:m.cs=c::r)(_:c.o.length<=1000000000)(aq:c.code[c.pl]?=some .ent):
 Cz 70 #[(G.b,0)] w (g6 G w ⟨m.s,m.v,{ c with pl:=c.pl+1,o:=c.o++[c.vs.length] } :: r⟩ (.tuple #[])):=by
 obtain⟨_,vv,_,vo,z⟩:=a3;obtain⟨a,g,n,_,_,mp,_,_,_,_,_,rfl,I,_,_,_,_,aj,a0,aY,_,a1,⟨T,V,X,Y⟩,ae,ag⟩:=z.fetch ah aq;obtain⟨⟨aG,aH,S,aI,aJ,aK,aL,aM,aN,aO⟩,aP⟩:=zD z.box;obtain⟨⟨aQ,aR,aS,aT,aU⟩,aV⟩:=zS I;have br:=z.lt;have bq:=zB I;have bs:(c.pl:Int)<(n:Int):=O
 have bt:IntKind.i64.wrap ((c.pl:Int)+1)=(c.pl:Int)+1:=Un
 have bl:a≠g:=fun e=>aj e.symm
 have bm:G.b≠a:=fun e=>aY e.symm
 have bn:G.b≠g:=fun e=>a0 e.symm
 have p:∀i,(w.setCell (a,1) (((c.pl:Int)+1):Int)).cell? ⟨g,i,none⟩=w.cell? ⟨g,i,none⟩:=fun i=>D6 (Dw w _ _ g aj)
 have Z:=(p (c.pl*4)).trans T;have aa:=(p (c.pl*4+1)).trans V;have ab:=(p (c.pl*4+2)).trans X;have ad:=(p (c.pl*4+3)).trans Y;obtain⟨rfl,rfl,rfl,rfl⟩:=a1;have bd:=C2 (True) trivial;have ax:=U ae;have ay:=U ag;have M:(w.setCell (a,1) (((c.pl:Int)+1):Int)).heap.size=w.heap.size:=Uk
 clear z ah aq ae ag I p;go_enter func70,ntmps70;go_wp2_with fail
 go_quiet (fail)
 go_upto_region 3 with fail;have E:=U (ax.o.same (w':=(w.drewN nq).setCell ⟨a,1,none⟩ (((c.pl:Int)+1):Int)) rfl rfl rfl rfl);have aA:=U (qH ay.o (w':=(w.drewN nq).setCell ⟨a,1,none⟩ (((c.pl:Int)+1):Int)) rfl rfl rfl rfl);have be:((w.drewN nq).setCell (a,1) (((c.pl:Int)+1):Int)).cell? (g,c.pl*4)=_:=Z;have bf:((w.drewN nq).setCell (a,1) (((c.pl:Int)+1):Int)).cell? (g,c.pl*4+1)=_:=aa;have bg:((w.drewN nq).setCell (a,1) (((c.pl:Int)+1):Int)).cell? (g,c.pl*4+2)=_:=ab;have bh:((w.drewN nq).setCell (a,1) (((c.pl:Int)+1):Int)).cell? (g,c.pl*4+3)=_:=ad;have bu:((w.drewN nq).setCell (a,1) (((c.pl:Int)+1):Int)).heap.size<=w.heap.size:=Dv M;have bv:w.heap.size<=((w.drewN nq).setCell (a,1) (((c.pl:Int)+1):Int)).heap.size:=Dv M.symm;clear Z aa ab ad M aG aH S aI aJ aK aL aM aN aO aP aQ aR aS aT aU aV T V X Y;generalize(w.drewN nq).setCell (a,1) (((c.pl:Int)+1):Int)=W at *;have bo:g<W.heap.size:=O
 have bp:G.b<W.heap.size:=O
 have aX:a<W.heap.size:=O
 have aZ:=E.o.frs;obtain⟨S,N,P,d,bc,ba,bb,l,q,ao⟩:=aZ;injection l with l;injection l with l;injection l with l _ _;subst l;obtain⟨Ar,y,C⟩:=zY q.row;have x:=U C;obtain⟨⟨_,f1,_,f3,_⟩,_⟩:=zS q.box;rw[C]at f3;have f:=U q;have aE:=U ao;obtain⟨a9,ak,au,av,aw⟩:=info_parts UC;have u:=U (Dt ak (Dt au (Dt av aw)));have bi:G.B<=W.heap.size:=E.o.hB;have af:Cy W (W.alloc (.cells #[.map (some d)] 163)).drew:=((D4 W.heap.size W).alloc Zr _).drew;have aF:=C2 ((W.alloc (.cells #[.map (some d)] 163)).ownsRow G.B 163 1 (.slice Ar c.o.length y) c.o.length (bb.map fun m=>.map (some m))) (C▸qS q.row ((D4 W.heap.size W).alloc Zr _) Zr);have aD:=U (jV W [.map (some d)] 163);have D:=U af;have bw:(W.alloc (.cells #[.map (some d)] 163)).heap.size=W.heap.size+1:=zA _ _;clear C q ao ak au av aw af;go_wp2_with fail
 go_region_law (first
  | (refine qY rfl (.tmp 100) (.tmp 105) _ rfl G.B 163 a9 _ 1 8 underlying165 u.o.1 u.o.2.1 u.o.2.2.1 u.o.2.2.2 rfl O (.slice Ar c.o.length y) c.o.length _ rfl (by exact qS aF.o Zb.drew Zr) ⟨W.heap.size,0,none⟩ 1 1 [.map (some d)] rfl rfl (by exact aD.o) Um Ul O (by show G.B<=(W.alloc _).heap.size;omega) O ?_
     intro _ w8 K J ap;obtain⟨j,k,rfl⟩:=zY K
     have A:w8.heap[a]?=some (F5 P (c.pl+1) d bc N):=by
      have a4:(Value.slice Ar c.o.length y).ownBlock≠some a:=fun e=>by have:=f.o.rol a (x.o▸e);rw[f.o.lab]at this;cases this
      exact((J.block a (by show a<(W.alloc _).heap.size;omega) fun e=>a4 e.symm).trans (D.o.block a aX)).trans f.o.box
     obtain⟨⟨_,_,_,_,_⟩,_⟩:=zS A;have bk:a<w8.heap.size:=zB A;have t:=U (Dt J (Dt ap K));have az:=U A
     clear K J ap A))
 all_goals
  have ar:(w8.setCell (a,3) (j,(c.o.length+1),k)).heap[a]?=some (F5 P (c.pl+1) d (.slice j (c.o.length+1) k) N):=D3 az.o _;have a8:(w8.setCell (a,3) (j,(c.o.length+1),k)).heap.size=w8.heap.size:=Uk
  have an:fZ (w8.setCell (a,3) (j,(c.o.length+1),k)) d c.vs.length (.pointer none) (gE c.vs ba):=by
   have al:=f.o.map.2;have a2:=al.lt;have a5:(Value.slice Ar c.o.length y).ownBlock≠some d:=fun e=>by have:=f.o.rol d (x.o▸e);rw[f.o.map.1]at this;cases this
   have a6:d≠a:=fun e=>by have:=f.o.map.1;rw[e,f.o.lab]at this;cases this
   exact al.wd ((Dw w8 _ _ d a6).trans ((t.o.1.block d (by show d<(W.alloc _).heap.size;omega) fun e=>a5 e.symm).trans (D.o.block d a2)))
  have F:=U ar;have aC:=U an;clear ar an;go_upto_region 23 with fail;generalize hW9:w8.setCell (a,3) (j,(c.o.length+1),k)=W9 at *;obtain⟨⟨_,_,_,_,_⟩,_⟩:=zS F.o;have aW:a<W9.heap.size:=zB F.o;have aB:=U hW9;clear hW9
  go_wp2_with (first
   | (go_at_call 98;(refine(HA d c.vs.length _ W9 aC.o).mono ?_);rintro e Q ⟨rfl,am,H,a7⟩
      have L:Q.heap[a]?=some (F5 P (c.pl+1) d (.slice j (c.o.length+1) k) N):=(H.block a aW).trans F.o;obtain⟨⟨_,_,_,_,_⟩,_⟩:=zS L;have bj:a<Q.heap.size:=zB L;have R:=U (Dt am H)
      clear am H a7 L))
  go_end0
  have ai:=E.o.enter f.o aE.o (w8:=w8) (w9:=Q) (v':=.slice j (c.o.length+1) k) (mp':=w8.heap.size) D.o (by rw[x.o];exact t.o.1) (by rw[x.o];exact t.o.2.1) t.o.2.2 (by rw[aB.o];exact R.o.2) rfl (a8▸R.o.1);exact⟨rfl,ai.1,aA.o.trans ai.2⟩
theorem O7{G:Gm}{τ:Nat->Lb}{w:C4}{m:Vm}(aJ:MW G τ w m){c:Fr}{r:List Fr}(S:m.cs=c::r){q:List Nat}{k:Nat}(z:c.o=q++[k])(X:c.o.length<=1000000000)(ab:c.code[c.pl]?=some .lve):
 Cz 70 #[(G.b,0)] w (g6 G w ⟨m.s,m.v,{ c with pl:=c.pl+1,vs:=c.vs.take k,o:=q } :: r⟩ (.tuple #[])):=by
 obtain⟨_,vv,_,vo,x⟩:=aJ;obtain⟨a,g,n,_,_,mp,_,_,_,_,_,rfl,A,_,_,_,_,V,aH,aF,_,aI,⟨H,I,J,K⟩,Q,R⟩:=x.fetch S ab;obtain⟨⟨am,an,F,ao,ap,aq,ar,au,av,aw⟩,ax⟩:=zD x.box;obtain⟨⟨ay,az,aA,aB,aC⟩,aD⟩:=zS A;have aZ:=x.lt;have aY:=zB A;have a0:(c.pl:Int)<(n:Int):=O
 have a6:IntKind.i64.wrap ((c.pl:Int)+1)=(c.pl:Int)+1:=Un
 have aR:a≠g:=fun e=>V e.symm
 have aT:G.b≠a:=fun e=>aF e.symm
 have aU:G.b≠g:=fun e=>aH e.symm
 have l:∀i,(w.setCell (a,1) (((c.pl:Int)+1):Int)).cell? ⟨g,i,none⟩=w.cell? ⟨g,i,none⟩:=fun i=>D6 (Dw w _ _ g V)
 have L:=(l (c.pl*4)).trans H;have M:=(l (c.pl*4+1)).trans I;have N:=(l (c.pl*4+2)).trans J;have P:=(l (c.pl*4+3)).trans K;obtain⟨rfl,rfl,rfl,rfl⟩:=aI;have aL:=C2 (True) trivial;have af:=U Q;have ag:=U R;have D:(w.setCell (a,1) (((c.pl:Int)+1):Int)).heap.size=w.heap.size:=Uk
 have a4:q.length<=1000000000:=by rw[z]at X;simp at X;omega
 clear x S ab Q R A l;go_enter func70,ntmps70;go_wp2_with fail
 go_quiet (fail)
 go_upto_region 3 with fail;have E:=U (af.o.same (w':=(w.drewN nq).setCell ⟨a,1,none⟩ (((c.pl:Int)+1):Int)) rfl rfl rfl rfl);have ah:=U (qH ag.o (w':=(w.drewN nq).setCell ⟨a,1,none⟩ (((c.pl:Int)+1):Int)) rfl rfl rfl rfl);have aM:((w.drewN nq).setCell (a,1) (((c.pl:Int)+1):Int)).cell? (g,c.pl*4)=_:=L;have aN:((w.drewN nq).setCell (a,1) (((c.pl:Int)+1):Int)).cell? (g,c.pl*4+1)=_:=M;have aO:((w.drewN nq).setCell (a,1) (((c.pl:Int)+1):Int)).cell? (g,c.pl*4+2)=_:=N;have aP:((w.drewN nq).setCell (a,1) (((c.pl:Int)+1):Int)).cell? (g,c.pl*4+3)=_:=P;have a7:((w.drewN nq).setCell (a,1) (((c.pl:Int)+1):Int)).heap.size<=w.heap.size:=Dv D;have a8:w.heap.size<=((w.drewN nq).setCell (a,1) (((c.pl:Int)+1):Int)).heap.size:=Dv D.symm;clear L M N P D am an F ao ap aq ar au av aw ax ay az aA aB aC aD H I J K;generalize(w.drewN nq).setCell (a,1) (((c.pl:Int)+1):Int)=W at *;have aW:g<W.heap.size:=O
 have aX:G.b<W.heap.size:=O
 have aQ:a<W.heap.size:=O
 have aG:=E.o.frs;obtain⟨F,_,_,_,_,_,ad,f,d,aa⟩:=aG;injection f with f;injection f with f;injection f with f _ _;subst f;have ak:=U z;have C:=d.row;have B:c.o.length=q.length+1:=by rw[z];simp
 obtain⟨t,p,y⟩:∃t p,ad=t++[p]:=by
  have j:=d.ml;rcases List.eq_nil_or_concat ad with rfl|⟨t,p,rfl⟩
  .have j:0=c.o.length:=j;omega
  .exact⟨t,p,List.concat_eq_append⟩
 have Z:t.length=q.length:=by have j:=d.ml;rw[y,B]at j;simpa using j
 have Y:({ c with pl:=c.pl+1 }:Fr).o.length=q.length+1:=B;rw[Y]at C;obtain⟨u,aE,rfl,_,_,_,ae,_⟩:=xE C (Ce _);have aV:W.cell? (u,q.length)=some (.map (some p)):=ae q.length _ (by rw[y,Yj,Yi (by rw[Yh,Z];exact D0 _),Yh,Z,Yy];rfl);obtain⟨⟨_,f1,_,f3,_⟩,_⟩:=zS d.box;have aK:u≠a:=fun e=>by have:=d.rol u rfl;rw[e,d.lab]at this;cases this
 have aS:a≠u:=fun e=>aK e.symm
 have ai:=U d;have al:=U aa;have aj:=U y;have a5:IntKind.i64.wrap (((q.length+1 :Nat):Int)-1)=(q.length:Int):=Un
 have a3:(q.length:Int)<((q.length+1 :Nat):Int):=O
 have a1:q.length<q.length+1:=Nat.lt_succ_self _;have a2:q.length<=aE:=O
 clear d aa C y ae z B Y;go_wp2_with fail
 go_region
 all_goals go_wp2_with fail
 all_goals go_end0
 all_goals
  have T:=E.o.leave (show({ c with pl:=c.pl+1 }:Fr).o=q++[k]from ak.o) ai.o al.o aj.o;exact⟨rfl,⟨_,_,_,_,_,T.1.drew⟩,ah.o.trans T.2.drew⟩
theorem rM{v:List Int}{x:Int}(h:v.getLast? =some x):v=v.dropLast++[x]:=by
 rcases List.eq_nil_or_concat v with rfl|⟨q,_,rfl⟩
 .cases h
 .rw[List.concat_eq_append]at *
  rw[jQ]at h;injection h with h;rw[jB,h]
theorem wB(v:List Int)(a:Nat):v=v.take (v.length-a)++v.drop (v.length-a):=(Ct _ _).symm
theorem DU{k op n:Int}{td:C3}{a:Nat}(b:zl k op n td a=true)(c:k=3\/k=6\/k=7):us td=true:=by
 unfold zl at b;rcases c with rfl|rfl|rfl<;>simp at b<;>simp[b]
theorem zAo{k op n:Int}{td:C3}{a:Nat}(b:zl k op n td a=true)(c:k=1\/k=2\/k=3\/k=8):a=0:=by
 unfold zl at b;rcases c with rfl|rfl|rfl|rfl<;>simp at b<;>omega
theorem UD{p:Pr}{td:C3}{k:Nat}(a:zZ p.wa td=some k):k<p.wa.length:=by
 have c:∀(l:List Ar) (k:Nat),zZ l td=some k->k<l.length:=by
  intro l
  induction l with
  |nil=>intro k a;cases a
  |cons x r b=>
    intro k a;rw[zZ]at a;split at a
    .injection a with a;subst a;exact Ce _
    .cases hr:zZ r td with
     |none=>rw[hr]at a;cases a
     |some j=>rw[hr]at a;injection a with a;have a:j+1=k:=a;have:=b j hr;rw[D1];omega
 exact c _ _ a
theorem MW.arr{G:Gm}{τ:Nat->Lb}{w:C4}{m:Vm}(h:MW G τ w m):m.s.arr.length=G.p.wa.length:=by
 obtain⟨_,_,_,_,h⟩:=h;obtain⟨_,h⟩:=h.arr;exact h.len
theorem JY{G:Gm}{τ:Nat->Lb}{w:C4}{m:Vm}(i:MW G τ w m){v:C5}{k op n:Int}{td:C3}{tc:List Ex}(o:pR G.B w v (.mk k op n td tc)){c:Fr}{r:List Fr}(J:m.cs=c::r)(N:m.v.length<=1000000000)(u:m.s.cost+1+m.s.fuel<=1000000000)
 (e:pQ G.p k op n td tc.length m.s m.v c r≠.bad):
 Cz 94 #[(G.b,0),v] w (DT G w (pQ G.p k op n td tc.length m.s m.v c r)):=by
 obtain⟨s,vs,_⟩:=m;dsimp only at J N u e ⊢;subst J;unfold pQ at e ⊢;by_cases F:vs.length<tc.length\/zl k op n td tc.length=false
 .rw[Dq F]at e;exact absurd rfl e
 rw[Dp F]at e ⊢
 have g:zl k op n td tc.length=true:=by
  cases hx:zl k op n td tc.length with
  |true=>rfl
  |false=>exact absurd (.inr hx) F
 have R:tc.length<=vs.length:=O
 have f:=wB vs tc.length;have M:(vs.drop (vs.length-tc.length)).length=tc.length:=by rw[Ys];omega
 have C:(vs.take (vs.length-tc.length)).length<=1000000000:=Vu
 generalize vs.take (vs.length-tc.length)=q at *;generalize vs.drop (vs.length-tc.length)=l at *;rcases F0 g with rfl|rfl|rfl|rfl|rfl|rfl|rfl|rfl
 .have A:=zAo g (.inl rfl)
  rw[Dp Uf,Dp Vh,vT _ _ _ _ _ _ _ _ (.inl rfl)]at *;have y:l=[]:=Yq O;subst y;rw[Yd]at f;subst f;exact t5 i o (.inl rfl) Km
 .have A:=zAo g (.inr (.inl rfl))
  rw[Dp Uf,Dp Vh,vT _ _ _ _ _ _ _ _ (.inr rfl)]at *;have y:l=[]:=Yq O;subst y;rw[Yd]at f;subst f;exact t5 i o (.inr rfl) Km
 .have A:=zAo g (.inr (.inr (.inl rfl)))
  have y:l=[]:=Yq O;subst y;rw[Yd]at f;subst f;rw[Dp Uf]at e ⊢;cases hev:jc c.vs td with
  |none=>rw[Dq (.inl ⟨rfl,hev⟩)]at e;exact absurd rfl e
  |some j=>
    rw[Dp (by rintro(⟨_,d⟩|⟨d,_⟩)<;>cases d),sY];exact JM i o rfl hev (vW (DU g (.inl rfl))) Km
 .have A:=(mW g).1 (.inl rfl)
  rw[Dp Uf,Dp Vh,sZ];obtain⟨a,rfl⟩:=XO (l:=l) O;exact JN i o f C u
 .have A:=(mW g).2 rfl
  rw[Dp Uf,Dp Vh,s0];obtain⟨a,b,rfl⟩:=zbz (l:=l) O;have K:vs=q++[a]++[b]:=by rw[f,Ya];rfl
  rw[show([a,b]:List Int).getD 1 0=b from rfl,show([a,b]:List Int).getD 0 0=a from rfl];by_cases D:ur op b=true
  .rw[Dq D]
   exact t7 i o K C D u
  .rw[Dp D]
   exact x7 i o K C (by simpa using D) u
 .have A:=(mW g).1 (.inr rfl)
  rw[Dp Uf]at e ⊢;obtain⟨a,rfl⟩:=XO (l:=l) O;cases hk:zZ G.p.wa td with
  |none=>rw[Dq (.inr ⟨rfl,hk⟩)]at e;exact absurd rfl e
  |some z=>
    rw[Dp (by rintro(⟨d,_⟩|⟨_,d⟩)<;>cases d),lQ];have D:=UD hk;have Q:s.arr.length=G.p.wa.length:=i.arr;obtain⟨E,H⟩:∃E,s.arr[z]?=some E:=⟨_,Dz O⟩
    rw[s6 hk (show(zV s).arr[z]?=some E from H)];by_cases t:0<=a/\a<(E.length:Int)
    .rw[show([a]:List Int).getD 0 0=a from rfl,Dq t]
     exact t8 i o f C hk H (vW (DU g (.inr (.inl rfl)))) t u
    .rw[show([a]:List Int).getD 0 0=a from rfl,Dp t]
     exact x8 i o f C hk H (vW (DU g (.inr (.inl rfl)))) t u
 .rw[Dq rfl]at e ⊢
  cases hfu:jU G.p td with
  |none=>rw[hfu]at e;exact absurd rfl e
  |some L=>
    rw[hfu]at e;dsimp only at e ⊢;by_cases I:L.params.length=tc.length
    .rw[Dq I]
     exact GX i o f C hfu (M.trans I.symm) (vW (DU g (.inr (.inr rfl)))) u
    .rw[Dp I]at e;exact absurd rfl e
 .have A:=zAo g (.inr (.inr (.inr rfl)))
  have y:l=[]:=Yq O;subst y;rw[Yd]at f;subst f;rw[Dp Uf,Dp Vh,iB];unfold vN;cases t:s.inp with
  |nil=>
    rw[show(zV s).inp=[]from t];exact t9 i o t u
  |cons x P=>
    rw[show(zV s).inp=x::P from t];exact q5 i o t Km u
theorem HB{G:Gm}{τ:Nat->Lb}{w:C4}{m:Vm}(f:MW G τ w m){v:C5}{k P:Int}{td:C3}{tc:List Ex}{tg th:List St}(n:oT G.B w v (.mk k P td tc tg th)){c:Fr}{r:List Fr}(D:m.cs=c::r)(M:m.v.length<=1000000000)(N:c.vs.length<=2000000000)(u:m.s.cost+1+m.s.fuel<=1000000000)
 (a:lG G.p k td m.s m.v c r≠.bad):
 Cz 95 #[(G.b,0),v] w (DT G w (lG G.p k td m.s m.v c r)):=by
 obtain⟨s,vs,_⟩:=m;dsimp only at D M u a ⊢;subst D;unfold lG at a ⊢;cases hlast:vs.getLast? with
 |none=>rw[hlast]at a;exact absurd rfl a
 |some x=>
   rw[hlast]at a;dsimp only at a ⊢;have l:=rM hlast;have g:vs.dropLast.length<=1000000000:=Jg
   generalize vs.dropLast=q at *;by_cases A:k<=3/\us td=false
   .rw[Dq A]at a;exact absurd rfl a
   rw[Dp A]at a ⊢
   have t:k<=3->td.size<=maxLen:=fun e=>vW (by
    cases hx:us td with
    |true=>rfl
    |false=>exact absurd ⟨e,hx⟩ A)
   by_cases F:k=1
   .subst F
    rw[Dq rfl];exact T9 f n l g rfl (t Uf) N
   rw[Dp F]at a ⊢;by_cases I:k=2
   .subst I
    rw[Dq rfl]at a ⊢;cases hev:jc c.vs td with
    |none=>rw[Dq hev]at a;exact absurd rfl a
    |some j=>
      rw[Dp (by first|(intro e;cases e;done)|(rw[hev];intro e;cases e))];exact UA f n l g rfl (t Uf) hev
   rw[Dp I]at a ⊢;by_cases J:k=3
   .subst J
    rw[Dq rfl]at a ⊢;cases hl2:q.getLast? with
    |none=>rw[hl2]at a;exact absurd rfl a
    |some i=>
      rw[hl2]at a;dsimp only at a ⊢;have E:=rM hl2;cases hk:zZ G.p.wa td with
      |none=>rw[Dq hk]at a;exact absurd rfl a
      |some z=>
        rw[Dp (by first|(intro e;cases e;done)|(rw[hk];intro e;cases e))];have R:=UD hk;have Q:s.arr.length=G.p.wa.length:=f.arr;obtain⟨y,C⟩:∃y,s.arr[z]?=some y:=⟨_,Dz O⟩
        rw[tA hk (show(zV s).arr[z]?=some y from C)];by_cases o:0<=i/\i<(y.length:Int)
        .rw[Dq o]
         exact DR f n l g E hk C (t Uf) u o
        .rw[Dp o]
         exact G8 f n l g E hk C (t Uf) u o
   rw[Dp J]at a ⊢;by_cases K:k=8
   .subst K
    rw[Dq rfl];cases r with
    |nil=>exact DS f n l g rfl
    |cons d r=>exact G9 f n l g rfl
   rw[Dp K]at a ⊢;by_cases L:k=9
   .subst L
    rw[Dq rfl];exact JV f n l g u
   rw[Dp L]at a ⊢;by_cases H:k=10
   .subst H
    rw[Dq rfl];exact YG f n l g
   .rw[Dp H]at a;exact absurd rfl a
theorem O8{G:Gm}{τ:Nat->Lb}{w:C4}{m:Vm}(g:MW G τ w m)(E:m.s.stat=0){K:Nat}(_:K<=900000000)(a:xL G.p K m≠.bad):
 Cz 70 #[(G.b,0)] w (DT G w (xL G.p K m)):=by
 obtain⟨s,v,H⟩:=m;unfold xL at a ⊢;cases H with
 |nil=>exact absurd rfl a
 |cons c r=>
   dsimp only at a E ⊢;by_cases l:Lm K s v c.vs c.o
   .rw[Dq l]at a ⊢
    have F:v.length<=1000000000:=by have:=l.v;omega
    have I:c.vs.length<=2000000000:=by have:=l.vs;omega
    have C:s.cost+1+s.fuel<=1000000000:=by have:=l.c;omega
    have B:c.o.length<=1000000000:=by have:=l.o;omega
    cases hx:c.code[c.pl]? with
    |none=>rw[hx]at a;exact absurd rfl a
    |some x=>
      rw[hx]at a;dsimp only at a ⊢;cases x with
      |beg=>exact O4 g rfl E hx
      |app e=>
        obtain⟨k,op,n,td,tc⟩:=e;exact O2 g rfl a (fun τ W u hW hpe=>JY hW hpe rfl F C a) hx
      |fin t=>
        obtain⟨k,_,td,tc,tg,th⟩:=t;exact O3 g rfl a (fun τ W u hW hpe=>HB hW hpe rfl F I C a) hx
      |jmp t=>exact O5 (c:=c) g rfl hx
      |unl t=>
        unfold yE at a ⊢;dsimp only at a ⊢;cases d:v.getLast? with
        |none=>rw[d]at a;exact absurd rfl a
        |some n=>
          dsimp only;have i:=rM d;have j:v.dropLast.length<=1000000000:=Jg
          generalize v.dropLast=q at *;by_cases f:n=0
          .subst f
           rw[Dq rfl];exact JW g rfl i j hx
          .rw[Dp f]
           exact JX g rfl i f j hx
      |lzy z t=>
        unfold yE at a ⊢;dsimp only at a ⊢;cases d:v.getLast? with
        |none=>rw[d]at a;exact absurd rfl a
        |some n=>
          dsimp only;have i:=rM d;have j:v.dropLast.length<=1000000000:=Jg
          generalize v.dropLast=q at *;by_cases f:n=0
          .cases z
           .rw[Dp Vw]
            exact lX g rfl i f j hx
           .rw[Dq Vw,i]
            exact k9 (i▸g) rfl rfl f j hx
          .cases z
           .rw[Dq Vw,i]
            exact iP (i▸g) rfl rfl f j hx
           .rw[Dp Vw]
            exact nF g rfl i f j hx
      |ent=>exact O6 g rfl B hx
      |lve=>
        unfold yE at a ⊢;dsimp only at a ⊢;cases d:c.o.getLast? with
        |none=>rw[d]at a;exact absurd rfl a
        |some n=>
          dsimp only
          obtain⟨q,D⟩:∃q,c.o=q++[n]:=by
           rcases List.eq_nil_or_concat c.o with A|⟨q,_,A⟩
           .rw[A]at d;cases d
           .rw[List.concat_eq_append]at A
            rw[A,jQ]at d;injection d with d;exact⟨q,by rw[A,d]⟩
          rw[show c.o.dropLast=q by rw[D,jB]];exact O7 g rfl D B hx
   .rw[Dp l]at a;exact absurd rfl a
theorem O9{p:Pr}{vs:fG}{k op n:Int}{td:C3}{l:List Int}{s t:RS}{x:Int}(h:qR p (fun _ _ s=>.fin s) vs k op n td l s=.ok x t):t.stat=s.stat:=by
 unfold qR at h;split at h
 .injection h with _ h;rw[<-h]
 split at h
 .injection h with _ h;rw[<-h]
 split at h
 .injection h with _ h;rw[<-h];rfl
 split at h
 .split at h
  .injection h with _ h;rw[<-h];rfl
  .cases h
 split at h
 .have:=r6 p td (l.getD 0 0) (zV s)
  rw[h]at this;exact this.2.2.2
 split at h
 .split at h<;>cases h
 .have:=pH (zV s)
  rw[h]at this;exact this.2.2.2
theorem JZ{p:Pr}{x:fP}{s:RS}{v:List Int}{c:Fr}{r:List Fr}{m':Vm}(a:yE p x s v c r=.go m'):m'.s.stat=s.stat:=by
 cases x with
 |beg=>
   unfold yE at a;dsimp only at a;cases hs:zj s with
   |fin t=>rw[hs]at a;cases a
   |ok _ t=>rw[hs]at a;injection a with a;rw[<-a];exact(vA hs).idl.2
 |app e=>
   obtain⟨k,op,n,td,tc⟩:=e;have a:pQ p k op n td tc.length s v c r=.go m':=a;unfold pQ at a;split at a
   .cases a
   split at a
   .split at a
    .split at a
     .injection a with a;rw[<-a];rfl
     .cases a
    .cases a
   split at a
   .cases a
   cases hn:qR p (fun _ _ s=>.fin s) c.vs k op n td (v.drop (v.length-tc.length)) s with
   |ok x t=>rw[hn]at a;injection a with a;rw[<-a];exact O9 hn
   |fin t=>rw[hn]at a;cases a
 |fin t=>
   obtain⟨k,_,td,tc,tg,th⟩:=t;have a:lG p k td s v c r=.go m':=a;unfold lG at a;cases hl:v.getLast? with
   |none=>rw[hl]at a;cases a
   |some x=>
     rw[hl]at a;dsimp only at a;split at a
     .cases a
     split at a
     .injection a with a;rw[<-a]
     split at a
     .split at a
      .cases a
      .injection a with a;rw[<-a]
     split at a
     .cases hl2:v.dropLast.getLast? with
      |none=>rw[hl2]at a;cases a
      |some i=>
        rw[hl2]at a;dsimp only at a;split at a
        .cases a
        .have b:=r7 p td i x (zV s)
         cases hp:y7 p td i x (zV s)with
         |fin t=>rw[hp]at a;cases a
         |ok _ t=>rw[hp]at a b;injection a with a;rw[<-a];exact b.2.2.2
     split at a
     .unfold XQ at a
      cases r with
      |nil=>cases a
      |cons d q=>injection a with a;rw[<-a]
     split at a
     .injection a with a;rw[<-a];rfl
     split at a
     .injection a with a;rw[<-a]
     .cases a
 |jmp t=>injection a with a;rw[<-a]
 |unl t=>
   exact Qn
 |lzy z t=>
   unfold yE at a;dsimp only at a;split at a
   .cases a
   .split at a
    .injection a with a;rw[<-a]
    .injection a with a;rw[<-a]
 |ent=>injection a with a;rw[<-a]
 |lve=>
   exact Qn
theorem HC{p:Pr}{K:Nat}{m m':Vm}(h:xL p K m=.go m'):m'.s.stat=m.s.stat:=by
 unfold xL at h;cases hc:m.cs with
 |nil=>rw[hc]at h;cases h
 |cons c r=>
   rw[hc]at h;dsimp only at h;split at h
   .split at h
    .cases h
    .exact JZ h
   .cases h
theorem BX{P:Nat->Prop}(e:∃j,P j):P (Classical.epsilon fun j=>P j/\∀i,P i->j<=i)/\∀i,P i->(Classical.epsilon fun j=>P j/\∀i,P i->j<=i)<=i:=by
 have k:∀n,(∃j,j<=n/\P j)->∃j,P j/\∀i,P i->j<=i:=by
  intro n
  induction n with
  |zero=>
    rintro⟨j,a,b⟩;have:j=0:=O
    subst this;exact⟨0,b,fun i _=>Dx _⟩
  |succ n g=>
    rintro⟨j,a,b⟩;by_cases d:∃j,j<=n/\P j
    .exact g d
    .refine⟨j,b,fun i f=>?_⟩
     rcases Cf i j with c|c
     .exact absurd ⟨i,O,f⟩ d
     .exact c
 obtain⟨j,a⟩:=e;exact Classical.epsilon_spec (p:=fun j=>P j/\∀i,P i->j<=i) (k j ⟨j,D0 _,a⟩)
theorem UE(v:C5)(a:TypeId)(w:C4):(Instr.typeAssert (.iface 68 v) a 68 true).run Tryz.prog w=.ok (.tuple #[v,.bool true]) w:=by
 simp[Instr.typeAssert,run_underlying underlying68]
abbrev kg:Obj:=.cells #[(0:Int),(0:Int)] 68
theorem zax(p:Nat)(a b:Int)(f:List PanicEntry)(w:C4)(d:w.heap[p]?=some kg):
 CallsD Tryz.prog 68 #[(p,0)] (.panicking ({ v:=.iface 68 (.agg #[(a:Int),(b:Int)]),recovered:=false } :: f)) w fun e m w'=>
  e=.returned (.tuple #[])/\m=.panicking ({ v:=.iface 68 (.agg #[(a:Int),(b:Int)]),recovered:=true } :: f)/\w'.heap[p]?=some (.cells #[(a:Int),(b:Int)] 68 (0,0))/\fF (fun k=>k=p) w w':=by
 obtain⟨⟨_,_⟩,_⟩:=zG d;have g:=zB d;have n:=UE (.agg #[(a:Int),(b:Int)]);refine callsD_of_wpS func68 rfl fun _ _ i=>?_
 apply wpS_seq;apply wpS_region;simp[wpOpsS,go_sem,recoverD,i,ntmps68,Exit.thenS];refine wpS_of_wp ?_;change Code.wp _ _ _ ⟨#[.pointer (some ⟨p,0,none⟩),.iface 68 (.agg #[(a:Int),(b:Int)]),undef,undef,.iface 68 (.agg #[(a:Int),(b:Int)]),undef,undef,undef,undef,undef,undef,undef,undef,undef],[]⟩ _;go_wp2
 have j:((((w.setCell (p,0) (a:Int)).setCell (p,1) (b:Int)).alloc (.cells #[(a:Int),(b:Int)] 68)).heap[p]?=some (.cells #[(a:Int),(b:Int)] 68 (0,0))):=
  (D7 _ _ p (by simp[World.setCell];exact g)).trans (D3 (D3 d _) _)
 have l:fF (fun k=>k=p) w (((w.setCell (p,0) (a:Int)).setCell (p,1) (b:Int)).alloc (.cells #[(a:Int),(b:Int)] 68)):=
  ((fF.set (X:=fun k=>k=p) w rfl 0 _).trans (fF.set (X:=fun k=>k=p) _ rfl 1 _) fun _ _ c=>c).trans (fF.alloc (fun k=>k=p) _ _) fun _ _ c=>c
 exact⟨rfl,_,rfl,.tuple #[],by simp[results,results68,go_sem],rfl,rfl,j,l⟩
def zb3(G:Gm)(w:C4)(t:RS):Prop:=∃c vv a vo,w.heap[G.b]?=some (XS G c vv a vo t)/\w.ownsRow G.B 3 1 vo t.o.length (t.o.map (Value.int .i64))/\t.o.length<=t.cost/\t.cost+t.fuel<=1000000000
def enV(c:Option Int)(t:RS):C5:=match c with
 |some n=>.agg #[.int .i64 1,.int .i64 n]
 |none=>.agg #[.int .i64 t.stat,.int .i64 0]
def PA(G:Gm)(K:Nat)(c:Option Int)(t:RS)(w wr:C4)(j:Nat):Prop:=∃τ mj,MW G τ wr mj/\mj.s.stat=0/\K9 G.p K j mj=.stop c t/\Below G.B w wr
def Gm.wg(G:Gm)(e:Nat)(o:Obj):Gm:={ G with kp:=fun k x=>k=e/\x=o }
theorem gD.wg{G:Gm}{τ:Nat->Lb}{w:C4}{m:Vm}{d vv c vo:C5}(a:gD G τ w m d vv c vo){e:Nat}{o:Obj}(i:τ e=.gl)(f:w.heap[e]?=some o):gD (G.wg e o) τ w m d vv c vo:=
 ⟨a.hB,a.old,a.tab,a.pok,a.box,a.lab,a.inp,a.val,a.o,a.frs,a.db,(by obtain⟨j,b⟩:=a.arr;exact⟨j,⟨b.lab,b.len,b.rl,b.map,b.row⟩⟩),a.nv,a.ni,a.no,a.lim,fun k x g=>by
   obtain⟨rfl,rfl⟩:=g
   exact⟨i,f⟩⟩
theorem PB{G:Gm}{e:Nat}{τ:Nat->Lb}{g i:C4}{t:RS}{v:List Int}{j:List Fr}(a:MW (G.wg e kg) τ g ⟨t,v,j⟩)(f:fF (fun k=>k=e) g i):zb3 G i t:=by
 obtain⟨n,vv,m,vo,a⟩:=a;have c:=(a.kp e kg ⟨rfl,rfl⟩).1;have l:G.b≠e:=fun x=>by have:=a.lab;rw[show(G.wg e kg).b=G.b from rfl,x,c]at this;cases this
 refine⟨n,vv,m,vo,(f.block _ a.lt l).trans a.box,zQ a.o.1 fun k d=>f.block k (zT a.o.1 k d).1 fun(x:k=e)=>?_,a.no,a.lim⟩;have:=a.o.2 k d;rw[x,c]at this;cases this
theorem UF{G:Gm}{τ:Nat->Lb}{w:C4}{F:RS}(aF:MW G τ w ⟨F,[],[]⟩)(ai:F.stat=0){r:Fu}(ab:jU G.p ⟨#[109,97,105,110]⟩=some r)(aa:r.params.length=0){K:Nat}(aC:K<=900000000){c:Option Int}{t:RS}(ag:To G.p K ⟨F,[],[⟨gF r,0,fN r [],[]⟩]⟩ (.stop c t)):
 Cz 33 #[(G.b,0)] w fun e w'=>e=.returned (enV c t)/\zb3 G w' t/\Below G.B w w':=by
 have aL:∀(W:Fn) (first V:Array C5) (w:C4),(Instr.makeFunc W first V).run Tryz.prog w=.ok (.func W first V) w:=fun _ _ _ _=>rfl
 obtain⟨_,vv,_,vo,J⟩:=aF;have aB:=J.hB;have M:Cy w (w.alloc kg):=Zb.alloc Zr _;have L:=(J.relab M (gP.lbl τ w .gl Zr)).wg (zAh τ w.heap.size .gl) (Ds w kg);have ap:=C2 (MW (G.wg w.heap.size kg) (SM τ w.heap.size .gl) (w.alloc kg) ⟨F,[],[]⟩) ⟨_,_,_,_,L⟩;have al:=U (M.mono aB);have aM:(w.alloc kg).heap.size=w.heap.size+1:=zA _ _;have an:=C2 (jU (G.wg w.heap.size kg).p ⟨#[109,97,105,110]⟩=some r) ab;have ar:=U ag;have am:=U aa;have au:=U ai;clear J L M ab ag aa ai
 go_enter_defers func33,ntmps33
 go_wp2_with (first
  | (go_at_call 69;(refine(BO (G:=G.wg w.heap.size kg) ap.o (q:=[]) (l:=[]) rfl (Dx _) an.o am.o.symm Uf).mono ?_);rintro e _ ⟨rfl,⟨τ2,ae⟩,Y⟩
     have aq:=U ae;have ak:=U (al.o.trans Y)
     clear ae Y))
 go_loopw [6] (fun _ wr=>∃j,PA (G.wg w.heap.size kg) K c t w wr j) (fun _ wr=>Classical.epsilon fun j=>PA (G.wg w.heap.size kg) K c t w wr j/\∀i,PA (G.wg w.heap.size kg) K c t w wr i->j<=i)
 case atStart=>
  obtain⟨k,ad⟩:=ar.o;exact⟨k,τ2,_,aq.o,au.o,ad,ak.o⟩
 case round=>
  obtain⟨X,aG⟩:=BX hrel;obtain⟨Q,N⟩:∃Q,(Classical.epsilon fun j=>PA (G.wg w.heap.size kg) K c t w wr j/\∀i,PA (G.wg w.heap.size kg) K c t w wr i->j<=i)=Q:=⟨_,rfl⟩
  rw[N]at X;have ao:=U N;clear aG hrel N;obtain⟨τj,v,P,D,d,Z⟩:=X;have S:=U Z;clear Z;cases Q with
  |zero=>cases d
  |succ g=>
    rw[K9]at d
    have C:xL (G.wg w.heap.size kg).p K v≠.bad:=fun e=>by
     have d:(match xL (G.wg w.heap.size kg).p K v with | .go m'=>K9 G.p K g m'|x=>x)=.stop c t:=d;rw[e]at d;cases d
    have m:=O8 P D aC C;cases hx:xL (G.wg w.heap.size kg).p K v with
    |bad=>exact absurd hx C
    |go E=>
      have d:(match xL (G.wg w.heap.size kg).p K v with | .go m'=>K9 G.p K g m'|x=>x)=.stop c t:=d;rw[hx]at m d;have ah:E.s.stat=0:=(HC hx).trans D;have H:=U (show Cz 70 #[(G.b,0)] wr (g6 (G.wg w.heap.size kg) wr E (.tuple #[])) from m);have T:=U (Dt ah (show K9 G.p K g E=.stop c t from d));clear m P D d C hx ah
      go_wp2_with (first
       | (go_at_call 70;(refine H.o.mono ?_);rintro e y ⟨rfl,⟨τ4,u⟩,A⟩
          have I:=C2 (PA (G.wg w.heap.size kg) K c t w y g) ⟨τ4,E,u,T.o.1,T.o.2,S.o.trans A⟩
          clear u A))
      go_roundw
      case rel=>exact⟨g,I.o⟩
      case measure=>
       have L:=(BX ⟨g,I.o⟩).2 g I.o;have aK:=ao.o;omega
    |stop z R=>
      have d:(match xL (G.wg w.heap.size kg).p K v with | .go m'=>K9 G.p K g m'|x=>x)=.stop c t:=d;rw[hx]at m d;injection d with ax ay;subst ax ay;have H:=U (show Cz 70 #[(G.b,0)] wr (yc (G.wg w.heap.size kg) wr z R) from m);clear m P D C hx;go_wp2_with fail;refine H.o.mono ?_;rintro e y ⟨rfl,⟨τ4,_,_,u⟩,A⟩;have aj:y.heap[w.heap.size]?=some kg:=by obtain⟨_,_,_,_,aA⟩:=u;exact(aA.kp _ _ ⟨rfl,rfl⟩).2
      obtain⟨av,aw,aD,aI⟩:∃a b,ZS z R=zak a b/\enV z R=.agg #[(a:Int),(b:Int)]:=by
       cases z with
       |none=>exact⟨_,_,rfl,rfl⟩
       |some n=>exact⟨_,_,rfl,rfl⟩
      rw[aD];refine leaves_cons (f:=68) (args:=#[.pointer (some ⟨w.heap.size,0,none⟩)]) Uh (by simp[go_sem]) ?_;refine(zax w.heap.size av aw [] y aj).mono ?_;rintro e _ aJ ⟨rfl,rfl,aH,af⟩;obtain⟨⟨az,f1⟩,_⟩:=zG aH;simp[Leaves,settle,results,results33,go_sem,az,f1,aI];have aE:Below G.B y aJ:=af.below (by have:=zB aj;omega) fun k ad (e:k=w.heap.size)=>O
      exact⟨PB u af,(S.o.trans A).trans aE⟩
end Go.Proofs.YthcmenajdcbnnaaGreatDoor
namespace Go.Proofs.YthcmenajdcbnnaaGreatDoor
open Go.RowKit Tryz
def yS(c:gK)(vo:C5)(f:Nat)(vv:C5)(vs:fG)(s:RS)(w:C4)(r:fS xy)(e:Ending)(w':C4):Prop:=
 ∃vo' vv' b d g,e=.returned (.tuple #[])/\fQ c w' vo' r.st/\gS c.L w' f vv' b d g/\fF (fun k=>f8 c vo k\/gI f vv k) w w'/\fM w.heap.size vo vo'/\fM w.heap.size vv vv'/\
   vs.length<=b.length/\b.length+r.st.fuel<=vs.length+s.fuel/\∀a t,r=.ok a t->b=a.2.2/\d=a.1/\g=a.2.1
def PC(c:gK)(g:Nat):Prop:=∀(w:C4) (vo:C5) (s:RS) (f:Nat) (vv:C5) (vs:fG) (ft:Int) (v:List Pa) (frm:Nat) (ti:Bool) (j:Nat) (k a:Int) (td:C3) (tc:List Ex) (tg th:List St) (m:Nat) (d i e:C5),
 fY c g w vo s f vv vs 0 0->xk vs=v.map (·.name)->uP (.mk k a td tc tg th) m=true->(yt c.p ft (.mk k a td tc tg th) v frm ti j).1=0->kW c.B w d tc->f6 c.B w i tg->f6 c.B w e th->
 Cz 102 #[(c.b,0),(f,0),.agg #[(k:Int),(a:Int),td,d,i,e]] w (yS c vo f vv vs s w (qn c.p g vs (.mk k a td tc tg th) s))
theorem PC.call{c:gK}{g:Nat}(l:PC c g){w:C4}{vo:C5}{s:RS}{f:Nat}{vv:C5}{vs:fG}{ft:Int}{v:List Pa}{frm:Nat}{ti:Bool}{j:Nat}{k a:Int}{td:C3}{tc:List Ex}{tg th:List St}{m:Nat}{d i e:C5}
 (n:fY c g w vo s f vv vs 0 0) (o:xk vs=v.map (·.name)) (q:uP (.mk k a td tc tg th) m=true) (r:(yt c.p ft (.mk k a td tc tg th) v frm ti j).1=0) (t:kW c.B w d tc) (u:f6 c.B w i tg) (x:f6 c.B w e th):
 Cz 102 #[(c.b,0),(f,0),.agg #[(k:Int),(a:Int),td,d,i,e]] w (yS c vo f vv vs s w (qn c.p g vs (.mk k a td tc tg th) s)):=
 l w vo s f vv vs ft v frm ti j k a td tc tg th m d i e n o q r t u x
def J0(c:gK)(g:Nat):Prop:=∀(w:C4) (vo:C5) (s:RS) (f:Nat) (vv:C5) (vs:fG) (ft:Int) (v:List Pa) (frm:Nat) (ti:Bool) (d:Nat) (l:List St) (m:Nat) (a:C5),
 fY c g w vo s f vv vs 0 0->xk vs=v.map (·.name)->fL l m=true->(zX c.p ft l v frm ti d).1=0->f6 c.B w a l->
 Cz 75 #[(c.b,0),(f,0),a] w (yS c vo f vv vs s w (qG (qn c.p g) vs l s))
theorem J0.call{c:gK}{g:Nat}(e:J0 c g){w:C4}{vo:C5}{s:RS}{f:Nat}{vv:C5}{vs:fG}{ft:Int}{v:List Pa}{frm:Nat}{ti:Bool}{d:Nat}{l:List St}{m:Nat}{a:C5}
 (i:fY c g w vo s f vv vs 0 0) (j:xk vs=v.map (·.name)) (k:fL l m=true) (n:(zX c.p ft l v frm ti d).1=0) (o:f6 c.B w a l):
 Cz 75 #[(c.b,0),(f,0),a] w (yS c vo f vv vs s w (qG (qn c.p g) vs l s)):=
 e w vo s f vv vs ft v frm ti d l m a i j k n o
theorem YH{c:gK}(f:gL c.p){g:Nat}{w:C4}{vo:C5}{s:RS}(a:w6 c g w vo s){vs:fG}{ft:Int}{st:St}{v:List Pa}{frm b m:Nat}{ti:Bool}(d:uP st m=true)(e:(yt c.p ft st v frm ti b).1=0):zr c.p (qn c.p g vs st s):=
 (jW c.p f g).2 ft st v vs frm ti b s m a.fu a.shp d e
theorem YI{c:gK}(f:gL c.p){g:Nat}{w:C4}{vo:C5}{s:RS}(a:w6 c g w vo s){vs:fG}{ft:Int}{l:List St}{v:List Pa}{frm b m:Nat}{ti:Bool}(d:fL l m=true)(e:(zX c.p ft l v frm ti b).1=0):zr c.p (qG (qn c.p g) vs l s):=
 xi (jW c.p f g).2 ft l v vs frm ti b s m a.fu a.shp d e
theorem UG(l:fG):(l.flatMap kV.cs).length=l.length*2:=by
 induction l with
 |nil=>rfl
 |cons x r a=>rw[Y2,Dr,a,D1];show 2+_=_;omega
theorem HD:∀(l:fG) (k:Nat) (s:C3) (z a:Int),l[k]?=some (s,z)->(l.flatMap kV.cs).set (k*2+1) (.int .i64 a)=(l.set k (s,a)).flatMap kV.cs
 |[],_,_,_,_,h=>Xb
 | x::r,0,s,z,a,h=>by
   simp at h;subst h;rfl
 | x::r,k+1,s,z,a,h=>by
   have b:=HD r k s z a Xs;rw[Y2,List.set_cons_succ,Y2,<-b,List.set_append_right _ _ (by show 2<=_;omega)];show _++List.set _ ((k+1)*2+1-2) _=_;rw[show(k+1)*2+1-2=k*2+1 by omega]
section
variable {L:Nat} {w w' W:C4}{f:Nat} {vv vv':C5}{vs:fG}{how n:Int}
theorem gS.de(a:gS L w f vv vs how n)(x:Int):gS L (w.setCell (f,1) (x:Int)) f vv vs x n:=
 ⟨D3 a.box _,zQ a.row fun k b=>Dw w _ _ k (fun e=>Hh),a.hL,a.wf,a.nr⟩
theorem gS.setn(a:gS L w f vv vs how n){x:Int}(c:fT x):gS L (w.setCell (f,2) (x:Int)) f vv vs how x:=
 ⟨D3 a.box _,zQ a.row fun k b=>Dw w _ _ k (fun e=>Hh),a.hL,a.wf,c⟩
theorem gS.we(a:gS L w f vv vs how n)(b:Cy w w'):gS L w' f vv vs how n:=a.keep (X:=fun _=>False) (fF.wb _ b) fun _ _ c=>c.elim
theorem gS.pre(c:gS L w f vv vs how n)(d:L<=w.heap.size)(s:C3)(a:Int):
 (w.alloc (.cells #[s,(a:Int)] 131)).ownsRow L 131 2 vv (vs.length+1) ((K5::vs).flatMap kV.cs)/\
 (∀j b,[Value.string s,.int .i64 a][j]?=some b->(w.alloc (.cells #[s,(a:Int)] 131)).cell? ((⟨w.heap.size,0,none⟩:Addr).add j)=some b)/\L<=(w.alloc (.cells #[s,(a:Int)] 131)).heap.size:=
 f4.pre (K:=kV) (ps:=K5::vs) ⟨c.row,fun _ _=>trivial⟩ [.string s,.int .i64 a] d
theorem gS.push(c:gS L w f vv vs how n)(d:Cy w W)(o:W.grownBy w' vv.ownBlock)(q:kn W vv vv'){s:C3}{a:Int}(u:w'.ownsRow L 131 2 vv' (vs.length+1+1) ((K5::vs).flatMap kV.cs++[.string s,.int .i64 a]))(r:fT a):
 gS L (w'.setCell (f,0) vv') f vv' (vs++[(s,a)]) how n/\fF (gI f vv) w (w'.setCell (f,0) vv')/\fM w.heap.size vv vv'/\w'.heap[f]?=some (P8 vv how n):=by
 have m:=c.lt;have p:vv.ownBlock≠some f:=c.apart;have l:w'.heap[f]?=some (P8 vv how n):=((o.block f (Yb m d.size) fun e=>p e.symm).trans (d.block f m)).trans c.box
 have t:vv'.ownBlock≠some f:=by
  rcases q with i|⟨g,i,_⟩
  .rw[i];exact p
  .rw[i];intro e;injection e with e;have:=d.size;omega
 refine⟨⟨D3 l _,?_,c.hL,?_,c.nr⟩,?_,fM.dj q d.size,l⟩
 .rw[Dr]
  have e:(K5::(vs++[(s,a)])).flatMap kV.cs=(K5::vs).flatMap kV.cs++[.string s,.int .i64 a]:=by
   rw[<-Yv,List.flatMap_append];rfl
  rw[e];exact zQ u fun k j=>Dw w' _ _ k (fun e=>by have e:k=f:=e;subst e;exact t j)
 .intro x b
  rcases List.mem_append.1 b with b|b
  .exact c.wf x b
  .rw[List.mem_singleton.1 b];exact r
 .refine((fF.wb (gI f vv) d).trans (fF.grown (X:=gI f vv) o fun k j=>.inr j) fun _ _ b=>b).trans (fF.set (X:=gI f vv) w' (.inl rfl) 0 vv') fun _ _ b=>b
theorem gS.put(c:gS L w f vv vs how n){s:C3}{k:Nat}{a:Int}(m:jc vs s=some k)(B:fT a):
 ∃g j,vv=.slice (some ⟨g,0,none⟩) (vs.length+1) j/\g<w.heap.size/\k+1<vs.length+1/\(∀o,w.frozen? ⟨g,o,none⟩=false)/\(∃M,w.cell? ⟨g,(k+1)*2+1,none⟩=some (.int .i64 M))/\
   gS L (w.setCell (g,(k+1)*2+1) (a:Int)) f vv (xJ vs s a) how n/\fF (gI f vv) w (w.setCell (g,(k+1)*2+1) (a:Int)):=by
 have N:=DD m;have D:vv.ownBlock≠some f:=c.apart;have p:xJ vs s a=vs.set k (s,a):=by unfold xJ;rw[m]
 have E:∃z,vs[k]?=some (s,z):=by
  have b:=rI m;rw[xk,Yn]at b;cases i:vs[k]? with
  |none=>rw[i]at b;cases b
  |some x=>rw[i]at b;injection b with b;exact⟨x.2,by rw[<-b]⟩
 obtain⟨z,r⟩:=E;obtain⟨g,j,b,_,v,_,y,A⟩:=c.cells;have C:=y (k+1) (s,z) Gi;rcases c.row.2 with⟨_,_⟩|⟨_,_,t,q,F,G,H,I,J,K⟩
 .omega
 rw[b]at q;injection q with d _ u;injection d with d;injection d with d _ _;subst d u;refine⟨g,j,b,v,O,A,⟨z,C.2⟩,⟨?_,?_,c.hL,?_,c.nr⟩,fF.set (X:=gI f vv) w (.inr (by rw[b];rfl)) _ _⟩
 .refine(Dw w _ _ f (fun e=>D ?_)).trans c.box
  have e:f=g:=e;rw[b,e];rfl
 .rw[p,Yw]
  have e:(K5::vs.set k (s,a)).flatMap kV.cs=((K5::vs).flatMap kV.cs).set ((k+1)*2+1) (.int .i64 a):=(HD (K5::vs) (k+1) s z a Gi).symm;refine⟨by rw[UG];simp,.inr ⟨g,j,t.setIfInBounds ((k+1)*2+1) (.int .i64 a),b,F,D3 G _,H,I,by simpa using J,?_⟩⟩;rw[e,<-K,Array.toList_setIfInBounds,List.take_set]
 .intro x i
  rw[p]at i;rcases Cv i with l|l
  .exact c.wf x l
  .rw[l];exact B
end
theorem gI.to{f L:Nat}{vv vv':C5}(b:fM L vv vv'){k:Nat}(c:k<L)(d:gI f vv' k):gI f vv k:=by
 rcases d with a|a
 .exact .inl a
 .exact .inr (b.old c a)
theorem PD(l:fG)(m:Nat):(l.flatMap kV.cs).take (m*2)=(l.take m).flatMap kV.cs:=by
 induction l generalizing m with
 |nil=>simp
 |cons x r a=>
   cases m with
   |zero=>simp
   |succ m=>
     rw[Y6,Y2,Y2,<-a m,show(m+1)*2=2+m*2 by omega,List.take_append,Ye (by show 2<=_;omega),show 2+m*2-(kV.cs x).length=m*2 by show 2+m*2-2=_;omega]
theorem gS.cut{L:Nat}{w:C4}{f:Nat}{b:Option Addr}{c:Nat}{vs:fG}{how n:Int}(a:gS L w f (.slice b (vs.length+1) c) vs how n){m:Nat}(i:m<=vs.length):
 gS L (w.setCell (f,0) (b,(m+1),c)) f (.slice b (m+1) c) (vs.take m) how n:=by
 refine⟨D3 a.box _,?_,a.hL,fun x j=>a.wf x (List.mem_of_mem_take j),a.nr⟩;have d:=CY a.row (show m+1<=vs.length+1 by omega);rw[PD]at d;have e:(K5::vs).take (m+1)=K5::vs.take m:=rfl;rw[e]at d;rw[Yg,Cc i]
 exact zQ d fun k g=>Dw w _ _ k (fun e=>by
  have e:k=f:=e;subst e
  exact a.apart (by rw[<-g];cases b<;>rfl))
structure f2 (c:gK) (w:C4) (vo:C5) (s:RS) (f:Nat) (vv:C5) (vs:fG) (wr:C4) (vo1 vv1:C5) (vs1:fG) (how1 n1:Int) (t:RS):Prop where
 run:fQ c wr vo1 t
 frm:gS c.L wr f vv1 vs1 how1 n1
 off:fF (fun k=>f8 c vo k\/gI f vv k) w wr
 to1:fM w.heap.size vo vo1
 to2:fM w.heap.size vv vv1
 le:vs.length<=vs1.length
 sum:vs1.length+t.fuel<=vs.length+s.fuel
section
variable {c:gK}{w:C4}{vo:C5}{s:RS}{f:Nat}{vv:C5}{vs:fG}{wr:C4}{vo1 vv1:C5}{vs1:fG}{how1 n1:Int}{t:RS}
theorem f2.start{g:Nat}{how n:Int}(h:fY c g w vo s f vv vs how n):f2 c w vo s f vv vs w vo vv vs how n s:=
 ⟨h.l.run,h.frm,fF.refl _ _,fM.refl _ _,fM.refl _ _,D0 _,D0 _⟩
theorem f2.post{r:fS xy}{e:Ending}{m:C4}(a:f2 c w vo s f vv vs wr vo1 vv1 vs1 how1 n1 t)(A:yS c vo1 f vv1 vs1 t wr r e m):
 e=.returned (.tuple #[])/\∃i j g d n2,f2 c w vo s f vv vs m i j g d n2 r.st/\∀a t,r=.ok a t->g=a.2.2/\d=a.1/\n2=a.2.1:=by
 obtain⟨i,j,g,d,n2,n,o,p,q,u,v,x,y,z⟩:=A;refine⟨n,i,j,g,d,n2,⟨o,p,?_,a.to1.trans u a.off.size,a.to2.trans v a.off.size,Dy a.le x,Dy y a.sum⟩,z⟩
 exact a.off.trans q fun k l b=>by
  rcases b with b|b
  .exact .inl (f8.to a.to1 l b)
  .exact .inr (gI.to a.to2 l b)
theorem f2.exo{g:C4}{e:C5}{d:RS}(a:f2 c w vo s f vv vs wr vo1 vv1 vs1 how1 n1 t)(l:fQ c g e d)(i:fF (f8 c vo1) wr g)(m:fM wr.heap.size vo1 e)(_:d.fuel<=t.fuel):f2 c w vo s f vv vs g e vv1 vs1 how1 n1 d:=
 ⟨l,a.frm.keep i fun k _ b=>i7 a.run a.frm b,a.off.trans i fun k j b=>.inl (f8.to a.to1 j b),a.to1.trans m a.off.size,a.to2,a.le,by have:=a.sum;omega⟩
theorem f2.off'(b:f2 c w vo s f vv vs wr vo1 vv1 vs1 how1 n1 t){e:C4}{X:Nat->Prop}(i:fF X wr e)(g:∀k,k<wr.heap.size->X k->f8 c vo1 k\/gI f vv1 k):fF (fun k=>f8 c vo k\/gI f vv k) w e:=
 (b.off.trans (i.mono g) fun k d a=>by
   rcases a with a|a
   .exact .inl (f8.to b.to1 d a)
   .exact .inr (gI.to b.to2 d a))
theorem wC(a:fQ c wr vo1 t)(b:gS c.L wr f vv1 vs1 how1 n1)(i:Nat)(d:C5):fQ c (wr.setCell (f,i) d) vo1 t:=
 a.keep (X:=fun k=>k=f) (fF.set (X:=fun k=>k=f) wr rfl i d) fun k _ e=>⟨by have:=b.hL;have:=a.ord;omega,fun g=>i7 a b g (.inl e)⟩
theorem f2.done{d:Option Addr}{e:Nat}{F:fG->St->RS->fS xy}{l:List St}{r:fS xy}(b:f2 c w vo s f vv vs wr vo1 (.slice d (vs1.length+1) e) vs1 how1 n1 t)(m:kH F vs l s=r)(C:r.st=t)(A:∀b t,r=.ok b t->vs1=b.2.2/\how1=b.1/\n1=b.2.1):
 yS c vo f vv vs s w (qG F vs l s) (.returned (.tuple #[])) (wr.setCell (f,0) (d,(vs.length+1),e)):=by
 have n:(qG F vs l s).st=t:=by
  unfold qG;rw[m,<-C];cases r<;>rfl
 have B:fQ c (wr.setCell (f,0) (d,(vs.length+1),e)) vo1 t:=wC b.run b.frm 0 _
 have D:fM w.heap.size vv (.slice d (vs.length+1) e):=by
  rcases b.to2 with j|⟨g,j,z⟩
  .exact .inl (by rw[<-j];cases d<;>rfl)
  .exact .inr ⟨g,by rw[<-j];cases d<;>rfl,z⟩
 refine⟨vo1,_,_,how1,n1,rfl,n▸B,b.frm.cut b.le,b.off' (fF.set (X:=gI f (.slice d (vs1.length+1) e)) wr (.inl rfl) 0 _) fun k _ E=>.inr E,b.to1,D,?_,?_,?_⟩
 .rw[Yg,Cc b.le];exact D0 _
 .rw[Yg,Cc b.le,n];have:=b.sum;have:=b.le;omega
 .intro q _ i
  unfold qG at i;rw[m]at i;cases r with
  |fin x=>cases i
  |ok a x=>
    obtain⟨o,p,v⟩:=A a x rfl;injection i with y _;subst y;exact⟨by rw[o],p,v⟩
end
def BkA(c:gK)(g:Nat)(ft:Int)(vs:fG)(l:List St)(s:RS)(i:Nat)(vs1:fG)(how1 n1:Int)(t:RS):Prop:=
 how1=0/\n1=0/\gQ c.p t/\t.fuel<=g/\kH (qn c.p g) vs l s=kH (qn c.p g) vs1 (l.drop i) t/\∃v frm ti a,xk vs1=v.map Pa.name/\(zX c.p ft (l.drop i) v frm ti a).1=0
def BkB(c:gK)(g:Nat)(vs:fG)(l:List St)(s:RS)(vs1:fG)(how1 n1:Int)(t:RS):Prop:=
 ∃r,kH (qn c.p g) vs l s=r/\r.st=t/\(t.spent || decide (t.stat≠0))=r.isFin/\∀h u,r=.ok h u->vs1=h.2.2/\how1=h.1/\n1=h.2.1/\how1≠0
theorem YJ{c:gK}{g:Nat}{ft:Int}{vs:fG}{l:List St}{s:RS}{i:Nat}{vs1:fG}{t:RS}{k j:Int}{td:C3}{tc:List Ex}{tg th:List St}{C:fG}{B n2:Int}{v:List Pa}{frm n1:Nat}{ti:Bool}
 (y:kH (qn c.p g) vs l s=kH (qn c.p g) vs1 (l.drop i) t) (A:l[i]?=some (.mk k j td tc tg th)) (_:t.fuel<=g) (z:zr c.p (qn c.p g vs1 (.mk k j td tc tg th) t)) (K:xk vs1=v.map Pa.name) (I:(zX c.p ft (l.drop (i+1)) (ID (.mk k j td tc tg th) v) frm ti n1).1=0)
 (J:∀f n,qn c.p g vs1 (.mk k j td tc tg th) t=.ok f n->C=f.2.2/\B=f.1/\n2=f.2.1):
 BkA c g ft vs l s (i+1) C B n2 (qn c.p g vs1 (.mk k j td tc tg th) t).st\/BkB c g vs l s C B n2 (qn c.p g vs1 (.mk k j td tc tg th) t).st:=by
 have u:=kE z;have E:=iE c.p g vs1 k j td tc tg th t;cases hr:qn c.p g vs1 (.mk k j td tc tg th) t with
 |fin n=>
   rw[hr]at u;exact .inr ⟨.fin n,by rw[y,xD A];exact NU hr,rfl,u,fun f x e=>Uv⟩
 |ok f n=>
   obtain⟨o,w,D⟩:=J f n hr;by_cases m:f.1=0
   .refine .inl ⟨w.trans m,D.trans (SF c.p g vs1 _ t hr (by rw[m];decide)),?_,?_,?_,?_⟩
    .rw[hr]at z;exact z
    .have:=((ku c.p g vs1 (.mk k j td tc tg th) t).at hr).1
     show n.fuel<=g;omega
    .rw[y,xD A]
     obtain⟨a,b,d⟩:=f;dsimp only at m o;subst m o;exact NS hr
    .rw[hr]at E
     obtain⟨q,G,H⟩:=E;refine⟨_,frm,ti,n1,?_,I⟩;rw[o,G,H m,K];show _=(jf k j td v).map Pa.name;unfold ug jf;by_cases r:k=1
     .rw[Dq r,Dq r,Yj];rfl
     .rw[Dp r,Dp r,Yd]
   .rw[hr]at u
    refine .inr ⟨.ok f n,by rw[y,xD A];exact NT hr m,rfl,u,fun _ _ e=>?_⟩;injection e with F _;subst F;exact⟨o,w,D,by rw[w];exact m⟩
section
variable {c:gK}{w:C4}{vo:C5}{s:RS}{f:Nat}{vv:C5}{vs:fG}{wr:C4}{vo1 vv1:C5}{vs1:fG}{how1 n1:Int}{t:RS}
theorem HE(d:fQ c wr vo1 t)(b:gS c.L wr f vv1 vs1 how1 n1){g:C4}(i:fF (gI f vv1) wr g):fQ c g vo1 t:=
 d.keep i fun k _ e=>⟨by
  have:=b.hL;have:=d.ord;rcases e with a|a
  .have a:k=f:=a;omega
  .have:=(zT b.row k a).2;omega,fun j=>i7 d b j e⟩
theorem f2.push(b:f2 c w vo s f vv vs wr vo1 vv1 vs1 how1 n1 t){W w8:C4}{d:C5}{g:C3}{a:Int}(m:Cy wr W)(n:W.grownBy w8 vv1.ownBlock)(o:kn W vv1 d)(p:w8.ownsRow c.L 131 2 d (vs1.length+1+1) ((K5::vs1).flatMap kV.cs++[.string g,.int .i64 a]))(l:fT a)(q:vs1.length+1+t.fuel<=vs.length+s.fuel):
 f2 c w vo s f vv vs (w8.setCell (f,0) d) vo1 d (vs1++[(g,a)]) how1 n1 t:=by
 obtain⟨i,e,j,_⟩:=b.frm.push m n o p l;exact⟨HE b.run b.frm e,i,b.off' e fun k _ r=>.inr r,b.to1,b.to2.trans j b.off.size,by rw[Dr];have:=b.le;omega,by rw[Dr];exact q⟩
theorem f2.vput(a:f2 c w vo s f vv vs wr vo1 vv1 vs1 how1 n1 t){d:C4}{b:fG}{i n2:Int}(j:gS c.L d f vv1 b i n2)(g:fF (gI f vv1) wr d)(e:b.length=vs1.length):f2 c w vo s f vv vs d vo1 vv1 b i n2 t:=
 ⟨HE a.run a.frm g,j,a.off' g fun k _ l=>.inr l,a.to1,a.to2,by rw[e];exact a.le,by rw[e];exact a.sum⟩
theorem PE(vs:fG)(s:C3)(n:Int):(xJ vs s n).length=vs.length:=by
 unfold xJ;split
 .rw[Yw]
 .rfl
theorem fQ.print(d:fQ c wr vo1 t){w8:C4}{i:C5}{a:Int}{o:Obj}(w:(wr.alloc o).grownBy w8 vo1.ownBlock)(I:kn (wr.alloc o) vo1 i)(A:w8.ownsRow c.L 3 1 i (t.o.length+1) (t.o.map (Value.int .i64)++[.int .i64 a]))(E:t.o.length+1<=t.cost):
 fQ c (w8.setCell (c.b,6) i) i { t with o:=t.o++[a] }/\fF (f8 c vo1) wr (w8.setCell (c.b,6) i)/\fM wr.heap.size vo1 i/\w8.heap[c.b]?=some (rnO c (Classical.choose d.box) vo1 t):=by
 have r:=d.ord;have J:(wr.alloc o).heap.size=wr.heap.size+1:=zA _ _;have u:Cy wr (wr.alloc o):=Zb.alloc Zr _;have v:=Cq d.box;have q:∀k,vo1.ownBlock=some k->c.L<=k:=fun k f=>(d.dl f).1
 have z:∀k,k<wr.heap.size->vo1.ownBlock≠some k->w8.heap[k]?=wr.heap[k]?:=fun k f G=>(w.block k O fun e=>G e.symm).trans (u.block k f)
 have s:w8.heap[c.b]?=some (rnO c (Classical.choose d.box) vo1 t):=(z c.b d.lt fun e=>by have:=q _ e;omega).trans v.2;have H:∀k,i.ownBlock=some k->c.L<=k:=fun k f=>(zT A k f).2
 have p:fF (f8 c vo1) wr (w8.setCell (c.b,6) i):=
  ((fF.wb (f8 c vo1) u).trans (fF.grown (X:=f8 c vo1) w fun k f=>.inr f) fun _ _ m=>m).trans (fF.set (X:=f8 c vo1) w8 (.inl ⟨D0 _,r.2.1⟩) 6 i) fun _ _ m=>m
 have y:∀k,k<wr.heap.size->k≠c.b->vo1.ownBlock≠some k->(w8.setCell (c.b,6) i).heap[k]?=wr.heap[k]?:=fun k f C D=>(Dw w8 _ _ k C).trans (z k f D)
 have n:Below c.B wr (w8.setCell (c.b,6) i):=d.below p fun k _ m=>(d.tch m).1
 refine⟨⟨⟨_,v.1.below n Zr,D3 s _⟩,d.pa.below n Zr,d.pf.below n Zr,?_,?_,d.rol,d.len,?_,d.lim,d.nod,d.inn,d.arn,d.num,d.alen,?_,d.fc,⟨r.1,r.2.1,by have:=p.size;omega⟩⟩,p,fM.dj I O,s⟩
 .rw[Dr,Yj]
  exact zQ A fun k f=>Dw w8 _ _ k (fun e=>by have:=H k f;have e:k=c.b:=e;omega)
 .exact zQ d.row fun k f=>y k (zT d.row k f).1 (by have:=(zT d.row k f).2;omega) fun e=>by have:=q k e;have:=(d.rol k f).1;omega
 .intro j g l x F
  have:=d.lim g (Yc x);exact(y g O O fun e=>by have:=q g e;omega).trans (d.arr j g l x F)
 .rw[Dr];exact E
theorem fQ.store(a:fQ c wr vo1 t){k g d:Nat}{l:List Int}{n:Int}(p:c.rows[k]?=some g)(w:t.arr[k]?=some l)(_:d<l.length)(P:fT n):
 fQ c (wr.setCell (g,d) (n:Int)) vo1 { t with arr:=t.arr.set k (l.set d n) }/\fF (f8 c vo1) wr (wr.setCell (g,d) (n:Int)):=by
 have I:=a.ord;have M:=a.lim g (Yc p);have H:=(List.getElem?_eq_some_iff.1 w).1;have C:fF (f8 c vo1) wr (wr.setCell (g,d) (n:Int)):=fF.set (X:=f8 c vo1) wr (.inl ⟨O,M.2⟩) d _;have v:∀q,q≠g->(wr.setCell (g,d) (n:Int)).heap[q]?=wr.heap[q]?:=fun q u=>Dw wr _ _ q u
 have z:Below c.B wr (wr.setCell (g,d) (n:Int)):=a.below C fun k _ D=>(a.tch D).1
 obtain⟨R,Q,D⟩:=a.box;refine⟨⟨⟨R,Q.below z Zr,(v c.b O).trans D⟩,a.pa.below z Zr,a.pf.below z Zr,?_,?_,a.rol,by show c.rows.length=(t.arr.set _ _).length;rw[Yw];exact a.len,?_,a.lim,a.nod,a.inn,?_,by show(t.arr.set _ _).length<=_;rw[Yw];exact a.num,by show(t.arr.set _ _).length=_;rw[Yw];exact a.alen,a.oc,a.fc,⟨I.1,I.2.1,by have:=C.size;omega⟩⟩,C⟩
 .exact zQ a.o fun q u=>v q (by have:=(a.dl u).1;omega)
 .show(wr.setCell _ _).ownsRow _ _ 1 c.vr (t.arr.set k (l.set d n)).length ((c.rows.zip (t.arr.set k (l.set d n))).map AY)
  rw[Yw]
  have e:(c.rows.zip (t.arr.set k (l.set d n))).map AY=(c.rows.zip t.arr).map AY:=by
   refine List.ext_getElem? fun i=>?_
   rw[Yn,Yn];by_cases G:i=k
   .subst G
    have J:(c.rows.zip t.arr)[i]?=some (g,l):=by rw[Cr];exact⟨p,w⟩
    have K:(c.rows.zip (t.arr.set i (l.set d n)))[i]?=some (g,l.set d n):=by rw[Cr];exact⟨p,by rw[List.getElem?_set_self H]⟩
    rw[J,K];show some (AY _)=some (AY _);unfold AY;rw[Yw]
   .have L:(c.rows.zip (t.arr.set k (l.set d n)))[i]?=(c.rows.zip t.arr)[i]?:=by
     simp only[List.zip,List.getElem?_zipWith,List.getElem?_set_ne (fun e=>G e.symm)]
    rw[L]
  rw[e];exact zQ a.row fun q u=>v q (fun e=>by subst e;exact(a.rol q u).2 (Yc p))
 .intro j E x r f
  have f:(t.arr.set k (l.set d n))[j]?=some x:=f;by_cases A:j=k
  .subst A
   rw[p]at r;injection r with r;subst r;rw[List.getElem?_set_self H]at f;injection f with f;subst f;have s:=D3 (i:=d) (a.arr j g l p w) (.int .i64 n);rw[s];congr 2;apply Array.ext';simp
  .rw[List.getElem?_set_ne (fun e=>A e.symm)]at f
   refine(v E fun e=>A ?_).trans (a.arr j E x r f);subst e;exact(List.getElem?_inj (List.getElem?_eq_some_iff.1 r).1 a.nod).1 (r.trans p.symm)
 .intro x f
  rcases Cv f with s|s
  .exact a.arn x s
  .subst s
   have F:=a.arn l (Yc w);refine⟨fun m N=>?_,by rw[Yw];exact F.2⟩;rcases Cv N with y|y
   .exact F.1 m y
   .rw[y];exact P
end
theorem o4{p:Pr}:∀{l:List Fu}{i:Nat},(uV p l i).1=0->∀f∈l,(yl p f).1=0
 |[],_,_,f,a=>Uo
 | x::r,i,h,f,a=>by
   rw[uV]at h;by_cases b:(yl p x).1=0
   .rw[Dp Up]at h
    rcases List.mem_cons.1 a with rfl|a
    .exact b
    .exact o4 h f a
   .rw[Dq b]at h;exact absurd h b
theorem iQ{p:Pr}(a:(yu p).1=0):f5 p=true/\gL p/\∃f,jU p ⟨#[109,97,105,110]⟩=some f/\f.params=[]:=by
 unfold yu at a;by_cases i:f5 p=false
 .rw[Dq i]at a;exact absurd a (by show(1 :Int)≠0;decide)
 rw[Dp i]at a;have g:f5 p=true:=by simpa using i
 by_cases e:(uW p p.wa || CI p.funcs || !xg p)=true
 .rw[Dq e]at a;exact absurd a Xw
 rw[Dp e]at a;refine⟨g,fun f d=>⟨?_,?_⟩,?_⟩
 .have b:=o4 a f d
  unfold yl at b;by_cases k:lM f.params=true
  .rw[Dq k]at b;exact absurd b Xw
  rw[Dp k]at b;by_cases j:(zX p f.type f.body f.params f.params.length false 0).1=0
  .exact j
  .rw[Dq j]at b;exact absurd b j
 .unfold f5 at g
  rw[D2]at g;have:=List.all_eq_true.1 g.2 f d;unfold yj at this;simp only[D2]at this;exact this.2
 .have c:xg p=true:=by
   simp only[Bool.or_eq_true,not_or,Bool.not_eq_true',Bool.not_eq_false]at e;simpa using e.2
  unfold xg at c;cases d:jU p ⟨#[109,97,105,110]⟩with
  |none=>rw[d]at c;cases c
  |some f=>
    rw[d]at c;simp only[D2,decide_eq_true_eq]at c;exact⟨f,rfl,List.length_eq_zero_iff.1 c.2⟩
def xA(p:Pr)(b:List Int)(F:Nat):RS:=⟨p.wa.map fun a=>List.replicate a.size.toNat 0,b,[],0,F,0,false⟩
def UH:fS xy->Int×Int×List Int×Nat×Nat
 |.ok h s=>(1,h.2.1,s.o,s.cost,s.fuel)
 |.fin s=>(s.stat,0,s.o,s.cost,s.fuel)
theorem BY{p:Pr}(b:(yu p).1≠0)(c:List Int)(a:Int):yD p c a=(0,0,[],0,0):=by unfold yD;rw[Dq b]
theorem wD{p:Pr}(d:(yu p).1=0){f:Fu}(e:jU p ⟨#[109,97,105,110]⟩=some f)(c:List Int)(b:Int):yD p c b=UH (qG (qn p b.toNat) [] f.body (xA p c b.toNat)):=by
 unfold yD;rw[Dp Uz,e];show(match qG (qn p b.toNat) [] f.body (xA p c b.toNat)with | .ok d s=>_ | .fin s=>_)=_;cases qG (qn p b.toNat) [] f.body (xA p c b.toNat)with
 |ok a t=>rfl
 |fin t=>rfl
theorem LR(p:Pr)(a:List Int)(F:Nat):gQ p (xA p a F):=⟨Hk,rfl,rfl⟩
theorem UI{p:Pr}(c:(yu p).1=0){f:Fu}(d:jU p ⟨#[109,97,105,110]⟩=some f)(b:List Int)(F:Nat):zr p (qG (qn p F) [] f.body (xA p b F)):=by
 obtain⟨_,a,_⟩:=iQ c;obtain⟨e,g⟩:=a f (hY d);exact xi (jW p a F).2 f.type f.body f.params [] _ _ _ _ 100 Zr (LR p b F) g e
def gT(p:Pr)(i:Nat):List (List Int):=(p.wa.take i).map fun a=>List.replicate a.size.toNat 0
theorem PF(p:Pr){i:Nat}(_:i<=p.wa.length):(gT p i).length=i:=by unfold gT;rw[Yh,Yg];omega
theorem wE{p:Pr}{i:Nat}{a:Ar}(h:p.wa[i]?=some a):gT p (i+1)=gT p i++[List.replicate a.size.toNat 0]:=by
 unfold gT;rw[Yt,h,Yj];rfl
theorem PG(p:Pr):gT p p.wa.length=p.wa.map fun a=>List.replicate a.size.toNat 0:=by unfold gT;rw[Ck]
abbrev ruO(a b c d:C5)(F:Nat):Obj:=.cells #[a,b,c,d,(0:Int),(0:Int),(),(0:Int),((F:Int):Int),.bool false] 78
abbrev slO(v:C5):Obj:=.cells #[v] 23
structure J1 (bb:Nat) (p:Pr) (va vf vi:C5) (F:Nat) (wr:C4) (vr:C5) (rows:List Nat) (i:Nat):Prop where
 len:rows.length=i
 box:wr.heap[bb]?=some (ruO va vf vi vr F)
 row:wr.ownsRow (bb+1) 23 1 vr i ((rows.zip (gT p i)).map AY)
 rol:∀k,vr.ownBlock=some k->k ∉ rows
 arr:∀(j g:Nat) (l:List Int),rows[j]?=some g->(gT p i)[j]?=some l->wr.heap[g]?=some (oN l)
 lim:∀g∈rows,bb<g/\g<wr.heap.size
 nod:rows.Nodup
theorem J1.next{d:Nat}{p:Pr}{A B C:C5}{F:Nat}{wr:C4}{q:C5}{t:List Nat}{i:Nat}(c:J1 d p A B C F wr q t i){a:Ar}(D:p.wa[i]?=some a){W w8:C4}{n:C5}
 (u:Cy wr W) (_:W.heap.size=wr.heap.size+2) (G:W.heap[wr.heap.size]?=some (oN (List.replicate a.size.toNat 0))) (r:W.grownBy w8 q.ownBlock) (J:kn W q n)
 (K:w8.ownsRow (d+1) 23 1 n (i+1) ((t.zip (gT p i)).map AY++[.slice (some ⟨wr.heap.size,0,none⟩) a.size.toNat a.size.toNat])):
 w8.heap[d]?=some (ruO A B C q F)/\J1 d p A B C F (w8.setCell (d,3) n) n (t++[wr.heap.size]) (i+1)/\Below d wr (w8.setCell (d,3) n):=by
 have P:=zB c.box;have v:∀k,q.ownBlock=some k->d+1<=k/\k<wr.heap.size:=fun k b=>⟨(zT c.row k b).2,(zT c.row k b).1⟩
 have E:∀k,k<wr.heap.size->q.ownBlock≠some k->w8.heap[k]?=wr.heap[k]?:=fun k b S=>(r.block k O fun e=>S e.symm).trans (u.block k b)
 have H:w8.heap[d]?=some (ruO A B C q F):=(E d P fun e=>by have:=v _ e;omega).trans c.box;have T:w8.heap[wr.heap.size]?=some (oN (List.replicate a.size.toNat 0)):=(r.block _ O fun e=>by have:=v _ e.symm;omega).trans G;have Q:=(List.getElem?_eq_some_iff.1 D).1;have z:=PF p (D9 Q);have N:∀k,n.ownBlock=some k->d+1<=k:=fun k b=>(zT K k b).2
 have w:∀k,k≠d->(w8.setCell (d,3) n).heap[k]?=w8.heap[k]?:=fun k b=>Dw w8 _ _ k b
 have Y:wr.heap.size+2<=w8.heap.size:=by have:=r.size;omega
 have X:(t++[wr.heap.size]).zip (gT p (i+1))=t.zip (gT p i)++[(wr.heap.size,List.replicate a.size.toNat 0)]:=by
  rw[wE D,List.zip_append (by rw[c.len,z])];rfl
 refine⟨H,⟨by rw[Dr,c.len];rfl,D3 H _,?_,?_,?_,?_,?_⟩,?_⟩
 .rw[X,Yj]
  have e:[(wr.heap.size,List.replicate a.size.toNat (0 :Int))].map AY=[.slice (some ⟨wr.heap.size,0,none⟩) a.size.toNat a.size.toNat]:=by
   show[AY _]=_;unfold AY;rw[Cg]
  rw[e];exact zQ K fun k b=>w k (by have:=N k b;omega)
 .intro k b f
  rcases List.mem_append.1 f with f|f
  .rcases J with m|⟨g,m,M⟩
   .exact c.rol k (m▸b) f
   .rw[m]at b;injection b with b;have:=(c.lim k f).2;omega
  .rw[List.mem_singleton]at f
   rcases J with m|⟨g,m,M⟩
   .have:=v k (m▸b);omega
   .rw[m]at b;injection b with b;omega
 .intro j g l o s
  rw[wE D]at s;by_cases I:j<i
  .rw[Yo (by rw[c.len];exact I)]at o
   rw[Yo (by rw[z];exact I)]at s;have m:=c.lim g (Yc o);refine(w g O).trans ((E g m.2 fun e=>c.rol g e (Yc o)).trans (c.arr j g l o s))
  .have R:j=i:=by
    have:=(List.getElem?_eq_some_iff.1 o).1;rw[Dr,c.len]at this;simp at this;omega
   subst R;rw[Yi (by rw[c.len];exact D0 _),c.len,Yy]at o;rw[Yi (by rw[z];exact D0 _),z,Yy]at s;simp at o s;subst o s;exact(w _ O).trans T
 .intro g f
  have L:(w8.setCell (d,3) n).heap.size=w8.heap.size:=Uk
  rw[L];rcases List.mem_append.1 f with f|f
  .have:=c.lim g f;omega
  .rw[List.mem_singleton]at f;omega
 .rw[List.nodup_append]
  refine⟨c.nod,Uh,fun x G _ V=>?_⟩;rw[List.mem_singleton]at V;have:=(c.lim x G).2;omega
 .refine⟨?_,?_,?_,?_,?_⟩
  .exact r.os.trans u.os
  .exact r.tape.trans u.tape
  .exact r.output.trans u.output
  .have L:(w8.setCell (d,3) n).heap.size=w8.heap.size:=by simp[World.setCell]
   omega
  .exact fun k b=>(w k O).trans (E k O fun e=>by have:=v k e;omega)
theorem J1.run{f B:Nat}{p:Pr}{q r s:C5}{F:Nat}{wr:C4}{w:C5}{v:List Nat}{d:List Int}(b:J1 f p q r s F wr w v p.wa.length)(x:B<=f)(y:gN B wr q p.wa)(A:gO B wr r p.funcs)(C:g5 B wr s d)(D:fR d)(E:p.wa.all yi=true)(o:p.wa.length<=1000000)(hF:F<=1000000000):
 fQ ⟨f,wr.heap.size,B,q,r,w,p,v⟩ wr (.slice none 0 0) (xA p d F):=by
 have z:=zB b.box;have u:(xA p d F).arr=gT p p.wa.length:=(PG p).symm;have e:(xA p d F).arr.length=p.wa.length:=Hk
 refine⟨⟨s,C,b.box⟩,y,A,Yp _ _ _ _,?_,fun k t=>⟨(zT b.row k t).1,b.rol k t⟩,by rw[e];exact b.len,?_,b.lim,b.nod,D,?_,by rw[e];exact o,e,D0 _,by show 0+F<=_;omega,⟨x,z,D0 _⟩⟩
 .rw[e,u];exact b.row
 .intro j g l i c;rw[u]at c;exact b.arr j g l i c
 .intro l m
  have m:l∈p.wa.map fun a=>List.replicate a.size.toNat (0 :Int):=m
  obtain⟨a,i,rfl⟩:=List.mem_map.1 m;have c:=List.all_eq_true.1 E a i;unfold yi at c;simp only[D2,decide_eq_true_eq]at c;refine⟨fun n o=>?_,by rw[Cg];omega⟩;rw[List.eq_of_mem_replicate o];exact⟨Uf,Uf⟩
