import Derived.Test.YthcmenajdcbnnaaGreatDoorAmEvMf
import Derived.Shelf.SlMaps.Clone
import Derived.Stop.Asserts
set_option linter.unusedSimpArgs false
set_option linter.unusedVariables false
set_option maxRecDepth 100000
set_option maxHeartbeats 99000000
namespace Go.Proofs.YthcmenajdcbnnaaGreatDoor
open Go.RowKit Tryz Go.Maps
theorem Qn{p:Prop}(h:p:=by
 unfold yC at a;dsimp only at a;split at a
 .cases a
 .injection a with a;rw[<-a]):p:=h
theorem T7:(Tryz.prog.info? 163).map (fun i=>(i.zero,i.size,i.bytes))=some (some (.map none),1,8):=by kernel_rfl
theorem GY(m k:Nat)(f:C2->C4)(w:C3)(p:fZ w m k (.pointer none) f):
 Cy 98 #[.map (some m)] w fun e w'=>e=.returned (.map (some w.heap.size))/\fZ w' w.heap.size k (.pointer none) f/\Cx w w'/\w'.heap.size=w.heap.size+1:=by
 obtain⟨j,⟨b,a,g,F,i,c⟩,d⟩:=p;have l:=U g;have q:=fun w=>run_eql_map_nil_sl (P:=Tryz.prog) w 163 _ _ (some m) underlying163
 have n:=C0 (fZ (w.alloc (.map b a)) w.heap.size k (.pointer none) f) ⟨j,⟨b,a,(MapKept.heap_alloc w _).1,F,i,c⟩,d⟩;clear g F i c d;go_enter func98,ntmps98;go_wp2;rw[run_callFunc_extern func118 (by kernel_rfl) (by kernel_rfl) (by kernel_rfl) (e:=Extern.MapsClone.clone) (by kernel_rfl),run_maps_clone_sl w 163 l.o];simp only[Result.andThen];rw[Oper.upon_value];go_wp2;rw[run_typeAssert_map_sl _ 163 20 _ _ _ underlying163];simp only[Result.andThen];rw[Oper.upon_value];go_wp2;go_ret;exact⟨rfl,n.o,(D4 _ w).alloc Zr _,zA _ _⟩
theorem gC.enter{G:Gm}{τ:Nat->Lb}{w:C3}{m:Vm}{ab vv vo:C4}{a:Nat}(u:gC G τ w m ab vv (.pointer (some ⟨a,0,none⟩)) vo){c:Fr}{r:List Fr}{p t g:C4}{mp:Nat}{tm n:List Nat}(f:rG G.B τ w r.length a p c t mp g tm n)(V:HM G.B τ w p r)
 {W w8 w9:C3} {v':C4} {mp':Nat} (i:Cx w W) (q:W.grownBy w8 g.ownBlock) (Y:kj W g v') (F:w8.ownsRow G.B 163 1 v' (c.o.length+1) (n.map (fun m=>Value.map (some m))++[.map (some mp)]))
 (l:Below (w8.setCell (a,3) v').heap.size (w8.setCell (a,3) v') w9) (_:mp'=w8.heap.size) (S:fZ w9 mp' c.vs.length (.pointer none) (gD c.vs tm)):
 (∃τ,MW G τ (w9.setCell (a,2) (.map (some mp'))) ⟨m.s,m.v,{ c with o:=c.o++[c.vs.length] } :: r⟩)/\Below G.B w (w9.setCell (a,2) (.map (some mp'))):=by
 obtain⟨τ1,A,D⟩:=FT i.size Y f.rol;have ae:=i.size;have af:W.heap.size<=w8.heap.size:=q.size;have ah:(w8.setCell (a,3) v').heap.size=w8.heap.size:=Uk
 have ag:w8.heap.size<=w9.heap.size:=Js
 have E:=zB f.box;have I:∀b,v'.ownBlock=some b->b<w8.heap.size:=fun b j=>(zT F b j).1
 have K:fF (fun k=>XE r.length (τ k)) w w8:=((fF.wb (fun k=>XE r.length (τ k)) i).trans (fF.grown (X:=fun k=>g.ownBlock=some k) q fun k d=>d) fun k _ d=>.inr (f.rol k d))
 have L:fF (fun k=>XE r.length (τ k)) w (w8.setCell (a,3) v'):=K.trans (fF.set (X:=fun k=>k=a) w8 rfl 3 v') fun k _ (d:k=a)=>.inl (by rw[d];exact f.lab)
 have M:fF (fun k=>XE r.length (τ k)) w w9:=L.trans (fF.wb (fun _=>False) l) fun k _ d=>d.elim
 have x:fF (fun k=>XE r.length (τ k)) w (w9.setCell (a,2) (.map (some mp'))):=M.trans (fF.set (X:=fun k=>k=a) w9 rfl 2 _) fun k _ (d:k=a)=>.inl (by rw[d];exact f.lab)
 have y:fF (fun k=>XD r.length (τ k)) w (w9.setCell (a,2) (.map (some mp'))):=x.mono fun k _ d=>by
  rcases d with d|d
  .exact .inl d
  .exact .inr (.inl d)
 have Q:=u.below (X:=XD r.length) y (lG _).1;have Z:g.ownBlock≠some a:=fun e=>by have:=f.rol a e;rw[f.lab]at this;cases this
 have aa:v'.ownBlock≠some a:=fun e=>by
  have:=D a e;rw[A a E,f.lab]at this;cases this
 have N:w8.heap[a]?=some (FSq t c.pl mp g p):=((q.block a O fun e=>Z e.symm).trans (i.block a E)).trans f.box;have P:w9.heap[a]?=some (FSq t c.pl mp v' p):=(l.block a O).trans (D3 N _);have T:mp'≠a:=O
 have z:gO τ (SH τ1 mp' (.vmap r.length (c.o.length+1))) w:=fun k d=>(zAc τ1 _ O).trans (A k d)
 have R:=f.enter (τ':=SH τ1 mp' (.vmap r.length (c.o.length+1))) (mp':=mp') (vo':=v') Q x z (D3 P _) ?_ (fun b j=>(zAc τ1 _ (by have:=I b j;omega)).trans (D b j)) (zAb _ _ _) (S.wd (Dw w9 _ _ mp' T))
 .have H:=u.top rfl y z V R
  exact⟨⟨_,_,_,_,_,H.1⟩,H.2⟩
 .have J:(n++[mp]).map (fun m=>Value.map (some m))=n.map (fun m=>Value.map (some m))++[.map (some mp)]:=by simp
  rw[J];refine zQ F fun k d=>?_
  have ad:=I k d;have C:k≠a:=fun e=>aa (e▸d)
  exact((Dw w9 _ _ k C).trans (l.block k O)).trans (Dw w8 _ _ k C)
theorem gC.leave{G:Gm}{τ:Nat->Lb}{w:C3}{m:Vm}{E vv vo:C4}{a:Nat}(j:gC G τ w m E vv (.pointer (some ⟨a,0,none⟩)) vo){c:Fr}{r:List Fr}{C M:C4}{mp g i:Nat}{tm A:List Nat}{q:List Nat}{n:Nat}(t:c.o=q++[n])(d:rG G.B τ w r.length a C c M mp (.slice (some ⟨g,0,none⟩) (q.length+1) i) tm A)(K:HM G.B τ w C r){D:List Nat}{l:Nat}(p:A=D++[l]):
 gC G τ ((w.setCell (a,2) (.map (some l))).setCell (a,3) (.slice (some ⟨g,0,none⟩) q.length i)) ⟨m.s,m.v,{ c with vs:=c.vs.take n,o:=q } :: r⟩ E vv (.pointer (some ⟨a,0,none⟩)) vo/\Below G.B w ((w.setCell (a,2) (.map (some l))).setCell (a,3) (.slice (some ⟨g,0,none⟩) q.length i)):=by
 have u:fF (fun k=>XE r.length (τ k)) w ((w.setCell (a,2) (.map (some l))).setCell (a,3) (.slice (some ⟨g,0,none⟩) q.length i)):=
  (fF.set (X:=fun k=>XE r.length (τ k)) w (.inl d.lab) 2 _).trans (fF.set (X:=fun k=>XE r.length (τ k)) _ (.inl d.lab) 3 _) fun _ _ j=>j
 have x:=u.mono (Y:=fun k=>XD r.length (τ k)) fun k _ f=>by
  rcases f with f|f
  .exact .inl f
  .exact .inr (.inl f)
 have H:=j.below (X:=XD r.length) x (lG _).1;have L:g≠a:=fun e=>by have:=d.rol g rfl;rw[e,d.lab]at this;cases this
 have J:D.length=q.length:=by have:=d.ml;rw[t,p]at this;simp at this;omega
 have z:=d.row;rw[p,show c.o.length=q.length+1 by rw[t];simp]at z;have hcut:=CL z (m:=q.length) O;rw[Nat.mul_one,Yj,List.take_left' (by rw[Yh,J])]at hcut
 have I:=d.leave (vo':=.slice (some ⟨g,0,none⟩) q.length i) H u t p (D3 (D3 d.box _) _) (zQ hcut fun k f=>by
  have f:g=k:=by injection f
  have y:k≠a:=fun e=>L (f.trans e)
  exact(Dw _ _ _ k y).trans (Dw _ _ _ k y)) (fun b F=>d.rol b F)
 exact j.top rfl x (gO.refl τ w) K I
theorem O1{G:Gm}{τ:Nat->Lb}{w:C3}{m:Vm}(a3:MW G τ w m){c:Fr}{r:List Fr}(ah:m.cs=c::r)(_:c.o.length<=1000000000)(aq:c.code[c.pl]?=some .ent):
 Cy 70 #[(G.b,0)] w (g5 G w ⟨m.s,m.v,{ c with pl:=c.pl+1,o:=c.o++[c.vs.length] } :: r⟩ (.tuple #[])):=by
 obtain⟨_,vv,_,vo,z⟩:=a3;obtain⟨a,g,n,_,_,mp,_,_,_,_,_,rfl,I,_,_,_,_,aj,a0,aY,_,a1,⟨T,V,X,Y⟩,ae,ag⟩:=z.fetch ah aq;obtain⟨⟨aG,aH,S,aI,aJ,aK,aL,aM,aN,aO⟩,aP⟩:=zD z.box;obtain⟨⟨aQ,aR,aS,aT,aU⟩,aV⟩:=zS I;have br:=z.lt;have bq:=zB I;have bs:(c.pl:Int)<(n:Int):=O
 have bt:IntKind.i64.wrap ((c.pl:Int)+1)=(c.pl:Int)+1:=Un
 have bl:a≠g:=fun e=>aj e.symm
 have bm:G.b≠a:=fun e=>aY e.symm
 have bn:G.b≠g:=fun e=>a0 e.symm
 have p:∀i,(w.setCell (a,1) (((c.pl:Int)+1):Int)).cell? ⟨g,i,none⟩=w.cell? ⟨g,i,none⟩:=fun i=>D6 (Dw w _ _ g aj)
 have Z:=(p (c.pl*4)).trans T;have aa:=(p (c.pl*4+1)).trans V;have ab:=(p (c.pl*4+2)).trans X;have ad:=(p (c.pl*4+3)).trans Y;obtain⟨rfl,rfl,rfl,rfl⟩:=a1;have bd:=C0 (True) trivial;have ax:=U ae;have ay:=U ag;have M:(w.setCell (a,1) (((c.pl:Int)+1):Int)).heap.size=w.heap.size:=Uk
 clear z ah aq ae ag I p;go_enter func70,ntmps70;go_wp2_with fail
 go_quiet (fail)
 go_upto_region 3 with fail;have E:=U (ax.o.same (w':=(w.drewN nq).setCell ⟨a,1,none⟩ (((c.pl:Int)+1):Int)) rfl rfl rfl rfl);have aA:=U (qH ay.o (w':=(w.drewN nq).setCell ⟨a,1,none⟩ (((c.pl:Int)+1):Int)) rfl rfl rfl rfl);have be:((w.drewN nq).setCell (a,1) (((c.pl:Int)+1):Int)).cell? (g,c.pl*4)=_:=Z;have bf:((w.drewN nq).setCell (a,1) (((c.pl:Int)+1):Int)).cell? (g,c.pl*4+1)=_:=aa;have bg:((w.drewN nq).setCell (a,1) (((c.pl:Int)+1):Int)).cell? (g,c.pl*4+2)=_:=ab;have bh:((w.drewN nq).setCell (a,1) (((c.pl:Int)+1):Int)).cell? (g,c.pl*4+3)=_:=ad;have bu:((w.drewN nq).setCell (a,1) (((c.pl:Int)+1):Int)).heap.size<=w.heap.size:=Dv M;have bv:w.heap.size<=((w.drewN nq).setCell (a,1) (((c.pl:Int)+1):Int)).heap.size:=Dv M.symm;clear Z aa ab ad M aG aH S aI aJ aK aL aM aN aO aP aQ aR aS aT aU aV T V X Y;generalize(w.drewN nq).setCell (a,1) (((c.pl:Int)+1):Int)=W at *;have bo:g<W.heap.size:=O
 have bp:G.b<W.heap.size:=O
 have aX:a<W.heap.size:=O
 have aZ:=E.o.frs;obtain⟨S,N,P,d,bc,ba,bb,l,q,ao⟩:=aZ;injection l with l;injection l with l;injection l with l _ _;subst l;obtain⟨Ar,y,C⟩:=zY q.row;have x:=U C;obtain⟨⟨_,f1,_,f3,_⟩,_⟩:=zS q.box;rw[C]at f3;have f:=U q;have aE:=U ao;obtain⟨a9,ak,au,av,aw⟩:=info_parts T7;have u:=U (Dt ak (Dt au (Dt av aw)));have bi:G.B<=W.heap.size:=E.o.hB;have af:Cx W (W.alloc (.cells #[.map (some d)] 163)).drew:=((D4 W.heap.size W).alloc Zr _).drew;have aF:=C0 ((W.alloc (.cells #[.map (some d)] 163)).ownsRow G.B 163 1 (.slice Ar c.o.length y) c.o.length (bb.map fun m=>.map (some m))) (C▸qR q.row ((D4 W.heap.size W).alloc Zr _) Zr);have aD:=U (jU W [.map (some d)] 163);have D:=U af;have bw:(W.alloc (.cells #[.map (some d)] 163)).heap.size=W.heap.size+1:=zA _ _;clear C q ao ak au av aw af;go_wp2_with fail
 go_region_law (first
  | (refine qX rfl (.tmp 100) (.tmp 105) _ rfl G.B 163 a9 _ 1 8 underlying165 u.o.1 u.o.2.1 u.o.2.2.1 u.o.2.2.2 rfl O (.slice Ar c.o.length y) c.o.length _ rfl (by exact qR aF.o Zb.drew Zr) ⟨W.heap.size,0,none⟩ 1 1 [.map (some d)] rfl rfl (by exact aD.o) Um Ul O (by show G.B<=(W.alloc _).heap.size;omega) O ?_
     intro _ w8 K J ap;obtain⟨j,k,rfl⟩:=zY K
     have A:w8.heap[a]?=some (FSq P (c.pl+1) d bc N):=by
      have a4:(Value.slice Ar c.o.length y).ownBlock≠some a:=fun e=>by have:=f.o.rol a (x.o▸e);rw[f.o.lab]at this;cases this
      exact((J.block a (by show a<(W.alloc _).heap.size;omega) fun e=>a4 e.symm).trans (D.o.block a aX)).trans f.o.box
     obtain⟨⟨_,_,_,_,_⟩,_⟩:=zS A;have bk:a<w8.heap.size:=zB A;have t:=U (Dt J (Dt ap K));have az:=U A
     clear K J ap A))
 all_goals
  have ar:(w8.setCell (a,3) (j,(c.o.length+1),k)).heap[a]?=some (FSq P (c.pl+1) d (.slice j (c.o.length+1) k) N):=D3 az.o _;have a8:(w8.setCell (a,3) (j,(c.o.length+1),k)).heap.size=w8.heap.size:=Uk
  have an:fZ (w8.setCell (a,3) (j,(c.o.length+1),k)) d c.vs.length (.pointer none) (gD c.vs ba):=by
   have al:=f.o.map.2;have a2:=al.lt;have a5:(Value.slice Ar c.o.length y).ownBlock≠some d:=fun e=>by have:=f.o.rol d (x.o▸e);rw[f.o.map.1]at this;cases this
   have a6:d≠a:=fun e=>by have:=f.o.map.1;rw[e,f.o.lab]at this;cases this
   exact al.wd ((Dw w8 _ _ d a6).trans ((t.o.1.block d (by show d<(W.alloc _).heap.size;omega) fun e=>a5 e.symm).trans (D.o.block d a2)))
  have F:=U ar;have aC:=U an;clear ar an;go_upto_region 23 with fail;generalize hW9:w8.setCell (a,3) (j,(c.o.length+1),k)=W9 at *;obtain⟨⟨_,_,_,_,_⟩,_⟩:=zS F.o;have aW:a<W9.heap.size:=zB F.o;have aB:=U hW9;clear hW9
  go_wp2_with (first
   | (go_at_call 98;(refine(GY d c.vs.length _ W9 aC.o).mono ?_);rintro e Q ⟨rfl,am,H,a7⟩
      have L:Q.heap[a]?=some (FSq P (c.pl+1) d (.slice j (c.o.length+1) k) N):=(H.block a aW).trans F.o;obtain⟨⟨_,_,_,_,_⟩,_⟩:=zS L;have bj:a<Q.heap.size:=zB L;have R:=U (Dt am H)
      clear am H a7 L))
  go_end0
  have ai:=E.o.enter f.o aE.o (w8:=w8) (w9:=Q) (v':=.slice j (c.o.length+1) k) (mp':=w8.heap.size) D.o (by rw[x.o];exact t.o.1) (by rw[x.o];exact t.o.2.1) t.o.2.2 (by rw[aB.o];exact R.o.2) rfl (a8▸R.o.1);exact⟨rfl,ai.1,aA.o.trans ai.2⟩
theorem O2{G:Gm}{τ:Nat->Lb}{w:C3}{m:Vm}(aJ:MW G τ w m){c:Fr}{r:List Fr}(S:m.cs=c::r){q:List Nat}{k:Nat}(z:c.o=q++[k])(X:c.o.length<=1000000000)(ab:c.code[c.pl]?=some .lve):
 Cy 70 #[(G.b,0)] w (g5 G w ⟨m.s,m.v,{ c with pl:=c.pl+1,vs:=c.vs.take k,o:=q } :: r⟩ (.tuple #[])):=by
 obtain⟨_,vv,_,vo,x⟩:=aJ;obtain⟨a,g,n,_,_,mp,_,_,_,_,_,rfl,A,_,_,_,_,V,aH,aF,_,aI,⟨H,I,J,K⟩,Q,R⟩:=x.fetch S ab;obtain⟨⟨am,an,F,ao,ap,aq,ar,au,av,aw⟩,ax⟩:=zD x.box;obtain⟨⟨ay,az,aA,aB,aC⟩,aD⟩:=zS A;have aZ:=x.lt;have aY:=zB A;have a0:(c.pl:Int)<(n:Int):=O
 have a6:IntKind.i64.wrap ((c.pl:Int)+1)=(c.pl:Int)+1:=Un
 have aR:a≠g:=fun e=>V e.symm
 have aT:G.b≠a:=fun e=>aF e.symm
 have aU:G.b≠g:=fun e=>aH e.symm
 have l:∀i,(w.setCell (a,1) (((c.pl:Int)+1):Int)).cell? ⟨g,i,none⟩=w.cell? ⟨g,i,none⟩:=fun i=>D6 (Dw w _ _ g V)
 have L:=(l (c.pl*4)).trans H;have M:=(l (c.pl*4+1)).trans I;have N:=(l (c.pl*4+2)).trans J;have P:=(l (c.pl*4+3)).trans K;obtain⟨rfl,rfl,rfl,rfl⟩:=aI;have aL:=C0 (True) trivial;have af:=U Q;have ag:=U R;have D:(w.setCell (a,1) (((c.pl:Int)+1):Int)).heap.size=w.heap.size:=Uk
 have a4:q.length<=1000000000:=by rw[z]at X;simp at X;omega
 clear x S ab Q R A l;go_enter func70,ntmps70;go_wp2_with fail
 go_quiet (fail)
 go_upto_region 3 with fail;have E:=U (af.o.same (w':=(w.drewN nq).setCell ⟨a,1,none⟩ (((c.pl:Int)+1):Int)) rfl rfl rfl rfl);have ah:=U (qH ag.o (w':=(w.drewN nq).setCell ⟨a,1,none⟩ (((c.pl:Int)+1):Int)) rfl rfl rfl rfl);have aM:((w.drewN nq).setCell (a,1) (((c.pl:Int)+1):Int)).cell? (g,c.pl*4)=_:=L;have aN:((w.drewN nq).setCell (a,1) (((c.pl:Int)+1):Int)).cell? (g,c.pl*4+1)=_:=M;have aO:((w.drewN nq).setCell (a,1) (((c.pl:Int)+1):Int)).cell? (g,c.pl*4+2)=_:=N;have aP:((w.drewN nq).setCell (a,1) (((c.pl:Int)+1):Int)).cell? (g,c.pl*4+3)=_:=P;have a7:((w.drewN nq).setCell (a,1) (((c.pl:Int)+1):Int)).heap.size<=w.heap.size:=Dv D;have a8:w.heap.size<=((w.drewN nq).setCell (a,1) (((c.pl:Int)+1):Int)).heap.size:=Dv D.symm;clear L M N P D am an F ao ap aq ar au av aw ax ay az aA aB aC aD H I J K;generalize(w.drewN nq).setCell (a,1) (((c.pl:Int)+1):Int)=W at *;have aW:g<W.heap.size:=O
 have aX:G.b<W.heap.size:=O
 have aQ:a<W.heap.size:=O
 have aG:=E.o.frs;obtain⟨F,_,_,_,_,_,ad,f,d,aa⟩:=aG;injection f with f;injection f with f;injection f with f _ _;subst f;have ak:=U z;have C:=d.row;have B:c.o.length=q.length+1:=by rw[z];simp
 obtain⟨t,p,y⟩:∃t p,ad=t++[p]:=by
  have j:=d.ml;rcases List.eq_nil_or_concat ad with rfl|⟨t,p,rfl⟩
  .have j:0=c.o.length:=j;omega
  .exact⟨t,p,List.concat_eq_append⟩
 have Z:t.length=q.length:=by have j:=d.ml;rw[y,B]at j;simpa using j
 have Y:({ c with pl:=c.pl+1 }:Fr).o.length=q.length+1:=B;rw[Y]at C;obtain⟨u,aE,rfl,_,_,_,ae,_⟩:=xC C (Cd _);have aV:W.cell? (u,q.length)=some (.map (some p)):=ae q.length _ (by rw[y,Yj,Yi (by rw[Yh,Z];exact D0 _),Yh,Z,Yy];rfl);obtain⟨⟨_,f1,_,f3,_⟩,_⟩:=zS d.box;have aK:u≠a:=fun e=>by have:=d.rol u rfl;rw[e,d.lab]at this;cases this
 have aS:a≠u:=fun e=>aK e.symm
 have ai:=U d;have al:=U aa;have aj:=U y;have a5:IntKind.i64.wrap (((q.length+1 :Nat):Int)-1)=(q.length:Int):=Un
 have a3:(q.length:Int)<((q.length+1 :Nat):Int):=O
 have a1:q.length<q.length+1:=Nat.lt_succ_self _;have a2:q.length<=aE:=O
 clear d aa C y ae z B Y;go_wp2_with fail
 go_region
 all_goals go_wp2_with fail
 all_goals go_end0
 all_goals
  have T:=E.o.leave (show({ c with pl:=c.pl+1 }:Fr).o=q++[k]from ak.o) ai.o al.o aj.o;exact⟨rfl,⟨_,_,_,_,_,T.1.drew⟩,ah.o.trans T.2.drew⟩
theorem rI{v:List Int}{x:Int}(h:v.getLast? =some x):v=v.dropLast++[x]:=by
 rcases List.eq_nil_or_concat v with rfl|⟨q,_,rfl⟩
 .cases h
 .rw[List.concat_eq_append]at *
  rw[jP]at h;injection h with h;rw[jA,h]
theorem t7(v:List Int)(a:Nat):v=v.take (v.length-a)++v.drop (v.length-a):=(Cs _ _).symm
theorem DJ{k op n:Int}{td:C2}{a:Nat}(b:zl k op n td a=true)(c:k=3\/k=6\/k=7):uk td=true:=by
 unfold zl at b;rcases c with rfl|rfl|rfl<;>simp at b<;>simp[b]
theorem zAi{k op n:Int}{td:C2}{a:Nat}(b:zl k op n td a=true)(c:k=1\/k=2\/k=3\/k=8):a=0:=by
 unfold zl at b;rcases c with rfl|rfl|rfl|rfl<;>simp at b<;>omega
theorem T8{p:Pr}{td:C2}{k:Nat}(a:zZ p.wa td=some k):k<p.wa.length:=by
 have c:∀(l:List Ar) (k:Nat),zZ l td=some k->k<l.length:=by
  intro l
  induction l with
  |nil=>intro k a;cases a
  |cons x r b=>
    intro k a;rw[zZ]at a;split at a
    .injection a with a;subst a;exact Cd _
    .cases hr:zZ r td with
     |none=>rw[hr]at a;cases a
     |some j=>rw[hr]at a;injection a with a;have a:j+1=k:=a;have:=b j hr;rw[D1];omega
 exact c _ _ a
theorem MW.arr{G:Gm}{τ:Nat->Lb}{w:C3}{m:Vm}(h:MW G τ w m):m.s.arr.length=G.p.wa.length:=by
 obtain⟨_,_,_,_,h⟩:=h;obtain⟨_,h⟩:=h.arr;exact h.len
theorem JN{G:Gm}{τ:Nat->Lb}{w:C3}{m:Vm}(i:MW G τ w m){v:C4}{k op n:Int}{td:C2}{tc:List Ex}(o:pK G.B w v (.mk k op n td tc)){c:Fr}{r:List Fr}(J:m.cs=c::r)(N:m.v.length<=1000000000)(u:m.s.cost+1+m.s.fuel<=1000000000)
 (e:pJ G.p k op n td tc.length m.s m.v c r≠.bad):
 Cy 94 #[(G.b,0),v] w (DI G w (pJ G.p k op n td tc.length m.s m.v c r)):=by
 obtain⟨s,vs,_⟩:=m;dsimp only at J N u e ⊢;subst J;unfold pJ at e ⊢;by_cases F:vs.length<tc.length\/zl k op n td tc.length=false
 .rw[Dq F]at e;exact absurd rfl e
 rw[Dp F]at e ⊢
 have g:zl k op n td tc.length=true:=by
  cases hx:zl k op n td tc.length with
  |true=>rfl
  |false=>exact absurd (.inr hx) F
 have R:tc.length<=vs.length:=O
 have f:=t7 vs tc.length;have M:(vs.drop (vs.length-tc.length)).length=tc.length:=by rw[Ys];omega
 have C:(vs.take (vs.length-tc.length)).length<=1000000000:=Vt
 generalize vs.take (vs.length-tc.length)=q at *;generalize vs.drop (vs.length-tc.length)=l at *;rcases FN g with rfl|rfl|rfl|rfl|rfl|rfl|rfl|rfl
 .have A:=zAi g (.inl rfl)
  rw[Dp Uf,Dp Vg,vS _ _ _ _ _ _ _ _ (.inl rfl)]at *;have y:l=[]:=Yq O;subst y;rw[Yd]at f;subst f;exact tX i o (.inl rfl) Kh
 .have A:=zAi g (.inr (.inl rfl))
  rw[Dp Uf,Dp Vg,vS _ _ _ _ _ _ _ _ (.inr rfl)]at *;have y:l=[]:=Yq O;subst y;rw[Yd]at f;subst f;exact tX i o (.inr rfl) Kh
 .have A:=zAi g (.inr (.inr (.inl rfl)))
  have y:l=[]:=Yq O;subst y;rw[Yd]at f;subst f;rw[Dp Uf]at e ⊢;cases hev:ja c.vs td with
  |none=>rw[Dq (.inl ⟨rfl,hev⟩)]at e;exact absurd rfl e
  |some j=>
    rw[Dp (by rintro(⟨_,d⟩|⟨d,_⟩)<;>cases d),sS];exact JB i o rfl hev (vV (DJ g (.inl rfl))) Kh
 .have A:=(mV g).1 (.inl rfl)
  rw[Dp Uf,Dp Vg,sT];obtain⟨a,rfl⟩:=XJ (l:=l) O;exact JC i o f C u
 .have A:=(mV g).2 rfl
  rw[Dp Uf,Dp Vg,sU];obtain⟨a,b,rfl⟩:=zbr (l:=l) O;have K:vs=q++[a]++[b]:=by rw[f,Ya];rfl
  rw[show([a,b]:List Int).getD 1 0=b from rfl,show([a,b]:List Int).getD 0 0=a from rfl];by_cases D:uj op b=true
  .rw[Dq D]
   exact tZ i o K C D u
  .rw[Dp D]
   exact xT i o K C (by simpa using D) u
 .have A:=(mV g).1 (.inr rfl)
  rw[Dp Uf]at e ⊢;obtain⟨a,rfl⟩:=XJ (l:=l) O;cases hk:zZ G.p.wa td with
  |none=>rw[Dq (.inr ⟨rfl,hk⟩)]at e;exact absurd rfl e
  |some z=>
    rw[Dp (by rintro(⟨d,_⟩|⟨_,d⟩)<;>cases d),lP];have D:=T8 hk;have Q:s.arr.length=G.p.wa.length:=i.arr;obtain⟨E,H⟩:∃E,s.arr[z]?=some E:=⟨_,Dy O⟩
    rw[sW hk (show(zV s).arr[z]?=some E from H)];by_cases t:0<=a/\a<(E.length:Int)
    .rw[show([a]:List Int).getD 0 0=a from rfl,Dq t]
     exact t1 i o f C hk H (vV (DJ g (.inr (.inl rfl)))) t u
    .rw[show([a]:List Int).getD 0 0=a from rfl,Dp t]
     exact x0 i o f C hk H (vV (DJ g (.inr (.inl rfl)))) t u
 .rw[Dq rfl]at e ⊢
  cases hfu:jT G.p td with
  |none=>rw[hfu]at e;exact absurd rfl e
  |some L=>
    rw[hfu]at e;dsimp only at e ⊢;by_cases I:L.params.length=tc.length
    .rw[Dq I]
     exact GL i o f C hfu (M.trans I.symm) (vV (DJ g (.inr (.inr rfl)))) u
    .rw[Dp I]at e;exact absurd rfl e
 .have A:=zAi g (.inr (.inr (.inr rfl)))
  have y:l=[]:=Yq O;subst y;rw[Yd]at f;subst f;rw[Dp Uf,Dp Vg,iA];unfold vL;cases t:s.inp with
  |nil=>
    rw[show(zV s).inp=[]from t];exact t2 i o t u
  |cons x P=>
    rw[show(zV s).inp=x::P from t];exact q0 i o t Kh u
theorem GZ{G:Gm}{τ:Nat->Lb}{w:C3}{m:Vm}(f:MW G τ w m){v:C4}{k P:Int}{td:C2}{tc:List Ex}{tg th:List St}(n:oP G.B w v (.mk k P td tc tg th)){c:Fr}{r:List Fr}(D:m.cs=c::r)(M:m.v.length<=1000000000)(N:c.vs.length<=2000000000)(u:m.s.cost+1+m.s.fuel<=1000000000)
 (a:lF G.p k td m.s m.v c r≠.bad):
 Cy 95 #[(G.b,0),v] w (DI G w (lF G.p k td m.s m.v c r)):=by
 obtain⟨s,vs,_⟩:=m;dsimp only at D M u a ⊢;subst D;unfold lF at a ⊢;cases hlast:vs.getLast? with
 |none=>rw[hlast]at a;exact absurd rfl a
 |some x=>
   rw[hlast]at a;dsimp only at a ⊢;have l:=rI hlast;have g:vs.dropLast.length<=1000000000:=Ja
   generalize vs.dropLast=q at *;by_cases A:k<=3/\uk td=false
   .rw[Dq A]at a;exact absurd rfl a
   rw[Dp A]at a ⊢
   have t:k<=3->td.size<=maxLen:=fun e=>vV (by
    cases hx:uk td with
    |true=>rfl
    |false=>exact absurd ⟨e,hx⟩ A)
   by_cases F:k=1
   .subst F
    rw[Dq rfl];exact T4 f n l g rfl (t Uf) N
   rw[Dp F]at a ⊢;by_cases I:k=2
   .subst I
    rw[Dq rfl]at a ⊢;cases hev:ja c.vs td with
    |none=>rw[Dq hev]at a;exact absurd rfl a
    |some j=>
      rw[Dp (by first|(intro e;cases e;done)|(rw[hev];intro e;cases e))];exact T5 f n l g rfl (t Uf) hev
   rw[Dp I]at a ⊢;by_cases J:k=3
   .subst J
    rw[Dq rfl]at a ⊢;cases hl2:q.getLast? with
    |none=>rw[hl2]at a;exact absurd rfl a
    |some i=>
      rw[hl2]at a;dsimp only at a ⊢;have E:=rI hl2;cases hk:zZ G.p.wa td with
      |none=>rw[Dq hk]at a;exact absurd rfl a
      |some z=>
        rw[Dp (by first|(intro e;cases e;done)|(rw[hk];intro e;cases e))];have R:=T8 hk;have Q:s.arr.length=G.p.wa.length:=f.arr;obtain⟨y,C⟩:∃y,s.arr[z]?=some y:=⟨_,Dy O⟩
        rw[sY hk (show(zV s).arr[z]?=some y from C)];by_cases o:0<=i/\i<(y.length:Int)
        .rw[Dq o]
         exact DG f n l g E hk C (t Uf) u o
        .rw[Dp o]
         exact GW f n l g E hk C (t Uf) u o
   rw[Dp J]at a ⊢;by_cases K:k=8
   .subst K
    rw[Dq rfl];cases r with
    |nil=>exact DH f n l g rfl
    |cons d r=>exact GX f n l g rfl
   rw[Dp K]at a ⊢;by_cases L:k=9
   .subst L
    rw[Dq rfl];exact JK f n l g u
   rw[Dp L]at a ⊢;by_cases H:k=10
   .subst H
    rw[Dq rfl];exact YC f n l g
   .rw[Dp H]at a;exact absurd rfl a
theorem O3{G:Gm}{τ:Nat->Lb}{w:C3}{m:Vm}(g:MW G τ w m)(E:m.s.stat=0){K:Nat}(_:K<=900000000)(a:xJ G.p K m≠.bad):
 Cy 70 #[(G.b,0)] w (DI G w (xJ G.p K m)):=by
 obtain⟨s,v,H⟩:=m;unfold xJ at a ⊢;cases H with
 |nil=>exact absurd rfl a
 |cons c r=>
   dsimp only at a E ⊢;by_cases l:Lm K s v c.vs c.o
   .rw[Dq l]at a ⊢
    have F:v.length<=1000000000:=by have:=l.v;omega
    have I:c.vs.length<=2000000000:=by have:=l.vs;omega
    have C:s.cost+1+s.fuel<=1000000000:=by have:=l.c;omega
    have B:c.o.length<=1000000000:=by have:=l.o;omega
    cases hx:c.code[c.pl]? with
    |none=>rw[hx]at a;exact absurd rfl a
    |some x=>
      rw[hx]at a;dsimp only at a ⊢;cases x with
      |beg=>exact OZ g rfl E hx
      |app e=>
        obtain⟨k,op,n,td,tc⟩:=e;exact OX g rfl a (fun τ W u hW hpe=>JN hW hpe rfl F C a) hx
      |fin t=>
        obtain⟨k,_,td,tc,tg,th⟩:=t;exact OY g rfl a (fun τ W u hW hpe=>GZ hW hpe rfl F I C a) hx
      |jmp t=>exact O0 (c:=c) g rfl hx
      |unl t=>
        unfold yC at a ⊢;dsimp only at a ⊢;cases d:v.getLast? with
        |none=>rw[d]at a;exact absurd rfl a
        |some n=>
          dsimp only;have i:=rI d;have j:v.dropLast.length<=1000000000:=Ja
          generalize v.dropLast=q at *;by_cases f:n=0
          .subst f
           rw[Dq rfl];exact JL g rfl i j hx
          .rw[Dp f]
           exact JM g rfl i f j hx
      |lzy z t=>
        unfold yC at a ⊢;dsimp only at a ⊢;cases d:v.getLast? with
        |none=>rw[d]at a;exact absurd rfl a
        |some n=>
          dsimp only;have i:=rI d;have j:v.dropLast.length<=1000000000:=Ja
          generalize v.dropLast=q at *;by_cases f:n=0
          .cases z
           .rw[Dp Vv]
            exact lW g rfl i f j hx
           .rw[Dq Vv,i]
            exact k8 (i▸g) rfl rfl f j hx
          .cases z
           .rw[Dq Vv,i]
            exact iO (i▸g) rfl rfl f j hx
           .rw[Dp Vv]
            exact nE g rfl i f j hx
      |ent=>exact O1 g rfl B hx
      |lve=>
        unfold yC at a ⊢;dsimp only at a ⊢;cases d:c.o.getLast? with
        |none=>rw[d]at a;exact absurd rfl a
        |some n=>
          dsimp only
          obtain⟨q,D⟩:∃q,c.o=q++[n]:=by
           rcases List.eq_nil_or_concat c.o with A|⟨q,_,A⟩
           .rw[A]at d;cases d
           .rw[List.concat_eq_append]at A
            rw[A,jP]at d;injection d with d;exact⟨q,by rw[A,d]⟩
          rw[show c.o.dropLast=q by rw[D,jA]];exact O2 g rfl D B hx
   .rw[Dp l]at a;exact absurd rfl a
theorem O4{p:Pr}{vs:fG}{k op n:Int}{td:C2}{l:List Int}{s t:RS}{x:Int}(h:qQ p (fun _ _ s=>.fin s) vs k op n td l s=.ok x t):t.stat=s.stat:=by
 unfold qQ at h;split at h
 .injection h with _ h;rw[<-h]
 split at h
 .injection h with _ h;rw[<-h]
 split at h
 .injection h with _ h;rw[<-h];rfl
 split at h
 .split at h
  .injection h with _ h;rw[<-h];rfl
  .cases h
 split at h
 .have:=r0 p td (l.getD 0 0) (zV s)
  rw[h]at this;exact this.2.2.2
 split at h
 .split at h<;>cases h
 .have:=pC (zV s)
  rw[h]at this;exact this.2.2.2
theorem JO{p:Pr}{x:fO}{s:RS}{v:List Int}{c:Fr}{r:List Fr}{m':Vm}(a:yC p x s v c r=.go m'):m'.s.stat=s.stat:=by
 cases x with
 |beg=>
   unfold yC at a;dsimp only at a;cases hs:zj s with
   |fin t=>rw[hs]at a;cases a
   |ok _ t=>rw[hs]at a;injection a with a;rw[<-a];exact(yy hs).idl.2
 |app e=>
   obtain⟨k,op,n,td,tc⟩:=e;have a:pJ p k op n td tc.length s v c r=.go m':=a;unfold pJ at a;split at a
   .cases a
   split at a
   .split at a
    .split at a
     .injection a with a;rw[<-a];rfl
     .cases a
    .cases a
   split at a
   .cases a
   cases hn:qQ p (fun _ _ s=>.fin s) c.vs k op n td (v.drop (v.length-tc.length)) s with
   |ok x t=>rw[hn]at a;injection a with a;rw[<-a];exact O4 hn
   |fin t=>rw[hn]at a;cases a
 |fin t=>
   obtain⟨k,_,td,tc,tg,th⟩:=t;have a:lF p k td s v c r=.go m':=a;unfold lF at a;cases hl:v.getLast? with
   |none=>rw[hl]at a;cases a
   |some x=>
     rw[hl]at a;dsimp only at a;split at a
     .cases a
     split at a
     .injection a with a;rw[<-a]
     split at a
     .split at a
      .cases a
      .injection a with a;rw[<-a]
     split at a
     .cases hl2:v.dropLast.getLast? with
      |none=>rw[hl2]at a;cases a
      |some i=>
        rw[hl2]at a;dsimp only at a;split at a
        .cases a
        .have b:=r1 p td i x (zV s)
         cases hp:yZ p td i x (zV s)with
         |fin t=>rw[hp]at a;cases a
         |ok _ t=>rw[hp]at a b;injection a with a;rw[<-a];exact b.2.2.2
     split at a
     .unfold XL at a
      cases r with
      |nil=>cases a
      |cons d q=>injection a with a;rw[<-a]
     split at a
     .injection a with a;rw[<-a];rfl
     split at a
     .injection a with a;rw[<-a]
     .cases a
 |jmp t=>injection a with a;rw[<-a]
 |unl t=>
   exact Qn
 |lzy z t=>
   unfold yC at a;dsimp only at a;split at a
   .cases a
   .split at a
    .injection a with a;rw[<-a]
    .injection a with a;rw[<-a]
 |ent=>injection a with a;rw[<-a]
 |lve=>
   exact Qn
theorem G0{p:Pr}{K:Nat}{m m':Vm}(h:xJ p K m=.go m'):m'.s.stat=m.s.stat:=by
 unfold xJ at h;cases hc:m.cs with
 |nil=>rw[hc]at h;cases h
 |cons c r=>
   rw[hc]at h;dsimp only at h;split at h
   .split at h
    .cases h
    .exact JO h
   .cases h
theorem BP{P:Nat->Prop}(e:∃j,P j):P (Classical.epsilon fun j=>P j/\∀i,P i->j<=i)/\∀i,P i->(Classical.epsilon fun j=>P j/\∀i,P i->j<=i)<=i:=by
 have k:∀n,(∃j,j<=n/\P j)->∃j,P j/\∀i,P i->j<=i:=by
  intro n
  induction n with
  |zero=>
    rintro⟨j,a,b⟩;have:j=0:=O
    subst this;exact⟨0,b,fun i _=>Dx _⟩
  |succ n g=>
    rintro⟨j,a,b⟩;by_cases d:∃j,j<=n/\P j
    .exact g d
    .refine⟨j,b,fun i f=>?_⟩
     rcases Ce i j with c|c
     .exact absurd ⟨i,O,f⟩ d
     .exact c
 obtain⟨j,a⟩:=e;exact Classical.epsilon_spec (p:=fun j=>P j/\∀i,P i->j<=i) (k j ⟨j,D0 _,a⟩)
theorem T9(v:C4)(a:TypeId)(w:C3):(Instr.typeAssert (.iface 68 v) a 68 true).run Tryz.prog w=.ok (.tuple #[v,.bool true]) w:=by
 simp[Instr.typeAssert,run_underlying underlying68]
abbrev kf:Obj:=.cells #[(0:Int),(0:Int)] 68
theorem zap(p:Nat)(a b:Int)(f:List PanicEntry)(w:C3)(d:w.heap[p]?=some kf):
 CallsD Tryz.prog 68 #[(p,0)] (.panicking ({ v:=.iface 68 (.agg #[(a:Int),(b:Int)]),recovered:=false } :: f)) w fun e m w'=>
  e=.returned (.tuple #[])/\m=.panicking ({ v:=.iface 68 (.agg #[(a:Int),(b:Int)]),recovered:=true } :: f)/\w'.heap[p]?=some (.cells #[(a:Int),(b:Int)] 68 (0,0))/\fF (fun k=>k=p) w w':=by
 obtain⟨⟨_,_⟩,_⟩:=zG d;have g:=zB d;have n:=T9 (.agg #[(a:Int),(b:Int)]);refine callsD_of_wpS func68 rfl fun _ _ i=>?_
 apply wpS_seq;apply wpS_region;simp[wpOpsS,go_sem,recoverD,i,ntmps68,Exit.thenS];refine wpS_of_wp ?_;change Code.wp _ _ _ ⟨#[.pointer (some ⟨p,0,none⟩),.iface 68 (.agg #[(a:Int),(b:Int)]),undef,undef,.iface 68 (.agg #[(a:Int),(b:Int)]),undef,undef,undef,undef,undef,undef,undef,undef,undef],[]⟩ _;go_wp2
 have j:((((w.setCell (p,0) (a:Int)).setCell (p,1) (b:Int)).alloc (.cells #[(a:Int),(b:Int)] 68)).heap[p]?=some (.cells #[(a:Int),(b:Int)] 68 (0,0))):=
  (D7 _ _ p (by simp[World.setCell];exact g)).trans (D3 (D3 d _) _)
 have l:fF (fun k=>k=p) w (((w.setCell (p,0) (a:Int)).setCell (p,1) (b:Int)).alloc (.cells #[(a:Int),(b:Int)] 68)):=
  ((fF.set (X:=fun k=>k=p) w rfl 0 _).trans (fF.set (X:=fun k=>k=p) _ rfl 1 _) fun _ _ c=>c).trans (fF.alloc (fun k=>k=p) _ _) fun _ _ c=>c
 exact⟨rfl,_,rfl,.tuple #[],by simp[results,results68,go_sem],rfl,rfl,j,l⟩
def zbv(G:Gm)(w:C3)(t:RS):Prop:=∃c vv a vo,w.heap[G.b]?=some (XO G c vv a vo t)/\w.ownsRow G.B 3 1 vo t.o.length (t.o.map (Value.int .i64))/\t.o.length<=t.cost/\t.cost+t.fuel<=1000000000
def enV(c:Option Int)(t:RS):C4:=match c with
 |some n=>.agg #[.int .i64 1,.int .i64 n]
 |none=>.agg #[.int .i64 t.stat,.int .i64 0]
def O5(G:Gm)(K:Nat)(c:Option Int)(t:RS)(w wr:C3)(j:Nat):Prop:=∃τ mj,MW G τ wr mj/\mj.s.stat=0/\K2 G.p K j mj=.stop c t/\Below G.B w wr
def Gm.wg(G:Gm)(e:Nat)(o:Obj):Gm:={ G with kp:=fun k x=>k=e/\x=o }
theorem gC.wg{G:Gm}{τ:Nat->Lb}{w:C3}{m:Vm}{d vv c vo:C4}(a:gC G τ w m d vv c vo){e:Nat}{o:Obj}(i:τ e=.gl)(f:w.heap[e]?=some o):gC (G.wg e o) τ w m d vv c vo:=
 ⟨a.hB,a.old,a.tab,a.pok,a.box,a.lab,a.inp,a.val,a.o,a.frs,a.da,(by obtain⟨j,b⟩:=a.arr;exact⟨j,⟨b.lab,b.len,b.rl,b.map,b.row⟩⟩),a.nv,a.ni,a.no,a.lim,fun k x g=>by
   obtain⟨rfl,rfl⟩:=g
   exact⟨i,f⟩⟩
theorem O6{G:Gm}{e:Nat}{τ:Nat->Lb}{g i:C3}{t:RS}{v:List Int}{j:List Fr}(a:MW (G.wg e kf) τ g ⟨t,v,j⟩)(f:fF (fun k=>k=e) g i):zbv G i t:=by
 obtain⟨n,vv,m,vo,a⟩:=a;have c:=(a.kp e kf ⟨rfl,rfl⟩).1;have l:G.b≠e:=fun x=>by have:=a.lab;rw[show(G.wg e kf).b=G.b from rfl,x,c]at this;cases this
 refine⟨n,vv,m,vo,(f.block _ a.lt l).trans a.box,zQ a.o.1 fun k d=>f.block k (zT a.o.1 k d).1 fun(x:k=e)=>?_,a.no,a.lim⟩;have:=a.o.2 k d;rw[x,c]at this;cases this
theorem UA{G:Gm}{τ:Nat->Lb}{w:C3}{F:RS}(aF:MW G τ w ⟨F,[],[]⟩)(ai:F.stat=0){r:Fu}(ab:jT G.p ⟨#[109,97,105,110]⟩=some r)(aa:r.params.length=0){K:Nat}(aC:K<=900000000){c:Option Int}{t:RS}(ag:To G.p K ⟨F,[],[⟨gE r,0,fN r [],[]⟩]⟩ (.stop c t)):
 Cy 33 #[(G.b,0)] w fun e w'=>e=.returned (enV c t)/\zbv G w' t/\Below G.B w w':=by
 have aL:∀(W:Fn) (first V:Array C4) (w:C3),(Instr.makeFunc W first V).run Tryz.prog w=.ok (.func W first V) w:=fun _ _ _ _=>rfl
 obtain⟨_,vv,_,vo,J⟩:=aF;have aB:=J.hB;have M:Cx w (w.alloc kf):=Zb.alloc Zr _;have L:=(J.relab M (gO.lbl τ w .gl Zr)).wg (zAb τ w.heap.size .gl) (Ds w kf);have ap:=C0 (MW (G.wg w.heap.size kf) (SH τ w.heap.size .gl) (w.alloc kf) ⟨F,[],[]⟩) ⟨_,_,_,_,L⟩;have al:=U (M.mono aB);have aM:(w.alloc kf).heap.size=w.heap.size+1:=zA _ _;have an:=C0 (jT (G.wg w.heap.size kf).p ⟨#[109,97,105,110]⟩=some r) ab;have ar:=U ag;have am:=U aa;have au:=U ai;clear J L M ab ag aa ai
 go_enter_defers func33,ntmps33
 go_wp2_with (first
  | (go_at_call 69;(refine(BG (G:=G.wg w.heap.size kf) ap.o (q:=[]) (l:=[]) rfl (Dx _) an.o am.o.symm Uf).mono ?_);rintro e _ ⟨rfl,⟨τ2,ae⟩,Y⟩
     have aq:=U ae;have ak:=U (al.o.trans Y)
     clear ae Y))
 go_loopw [6] (fun _ wr=>∃j,O5 (G.wg w.heap.size kf) K c t w wr j) (fun _ wr=>Classical.epsilon fun j=>O5 (G.wg w.heap.size kf) K c t w wr j/\∀i,O5 (G.wg w.heap.size kf) K c t w wr i->j<=i)
 case atStart=>
  obtain⟨k,ad⟩:=ar.o;exact⟨k,τ2,_,aq.o,au.o,ad,ak.o⟩
 case round=>
  obtain⟨X,aG⟩:=BP hrel;obtain⟨Q,N⟩:∃Q,(Classical.epsilon fun j=>O5 (G.wg w.heap.size kf) K c t w wr j/\∀i,O5 (G.wg w.heap.size kf) K c t w wr i->j<=i)=Q:=⟨_,rfl⟩
  rw[N]at X;have ao:=U N;clear aG hrel N;obtain⟨τj,v,P,D,d,Z⟩:=X;have S:=U Z;clear Z;cases Q with
  |zero=>cases d
  |succ g=>
    rw[K2]at d
    have C:xJ (G.wg w.heap.size kf).p K v≠.bad:=fun e=>by
     have d:(match xJ (G.wg w.heap.size kf).p K v with | .go m'=>K2 G.p K g m'|x=>x)=.stop c t:=d;rw[e]at d;cases d
    have m:=O3 P D aC C;cases hx:xJ (G.wg w.heap.size kf).p K v with
    |bad=>exact absurd hx C
    |go E=>
      have d:(match xJ (G.wg w.heap.size kf).p K v with | .go m'=>K2 G.p K g m'|x=>x)=.stop c t:=d;rw[hx]at m d;have ah:E.s.stat=0:=(G0 hx).trans D;have H:=U (show Cy 70 #[(G.b,0)] wr (g5 (G.wg w.heap.size kf) wr E (.tuple #[])) from m);have T:=U (Dt ah (show K2 G.p K g E=.stop c t from d));clear m P D d C hx ah
      go_wp2_with (first
       | (go_at_call 70;(refine H.o.mono ?_);rintro e y ⟨rfl,⟨τ4,u⟩,A⟩
          have I:=C0 (O5 (G.wg w.heap.size kf) K c t w y g) ⟨τ4,E,u,T.o.1,T.o.2,S.o.trans A⟩
          clear u A))
      go_roundw
      case rel=>exact⟨g,I.o⟩
      case measure=>
       have L:=(BP ⟨g,I.o⟩).2 g I.o;have aK:=ao.o;omega
    |stop z R=>
      have d:(match xJ (G.wg w.heap.size kf).p K v with | .go m'=>K2 G.p K g m'|x=>x)=.stop c t:=d;rw[hx]at m d;injection d with ax ay;subst ax ay;have H:=U (show Cy 70 #[(G.b,0)] wr (ya (G.wg w.heap.size kf) wr z R) from m);clear m P D C hx;go_wp2_with fail;refine H.o.mono ?_;rintro e y ⟨rfl,⟨τ4,_,_,u⟩,A⟩;have aj:y.heap[w.heap.size]?=some kf:=by obtain⟨_,_,_,_,aA⟩:=u;exact(aA.kp _ _ ⟨rfl,rfl⟩).2
      obtain⟨av,aw,aD,aI⟩:∃a b,ZK z R=zac a b/\enV z R=.agg #[(a:Int),(b:Int)]:=by
       cases z with
       |none=>exact⟨_,_,rfl,rfl⟩
       |some n=>exact⟨_,_,rfl,rfl⟩
      rw[aD];refine leaves_cons (f:=68) (args:=#[.pointer (some ⟨w.heap.size,0,none⟩)]) Uh (by simp[go_sem]) ?_;refine(zap w.heap.size av aw [] y aj).mono ?_;rintro e _ aJ ⟨rfl,rfl,aH,af⟩;obtain⟨⟨az,f1⟩,_⟩:=zG aH;simp[Leaves,settle,results,results33,go_sem,az,f1,aI];have aE:Below G.B y aJ:=af.below (by have:=zB aj;omega) fun k ad (e:k=w.heap.size)=>O
      exact⟨O6 u af,(S.o.trans A).trans aE⟩
end Go.Proofs.YthcmenajdcbnnaaGreatDoor
namespace Go.Proofs.YthcmenajdcbnnaaGreatDoor
open Go.RowKit Tryz
def yP(c:gJ)(vo:C4)(f:Nat)(vv:C4)(vs:fG)(s:RS)(w:C3)(r:fR xx)(e:Ending)(w':C3):Prop:=
 ∃vo' vv' b d g,e=.returned (.tuple #[])/\fP c w' vo' r.st/\gR c.L w' f vv' b d g/\fF (fun k=>f8 c vo k\/gG f vv k) w w'/\fM w.heap.size vo vo'/\fM w.heap.size vv vv'/\
   vs.length<=b.length/\b.length+r.st.fuel<=vs.length+s.fuel/\∀a t,r=.ok a t->b=a.2.2/\d=a.1/\g=a.2.1
def O7(c:gJ)(g:Nat):Prop:=∀(w:C3) (vo:C4) (s:RS) (f:Nat) (vv:C4) (vs:fG) (ft:Int) (v:List Pa) (frm:Nat) (ti:Bool) (j:Nat) (k a:Int) (td:C2) (tc:List Ex) (tg th:List St) (m:Nat) (d i e:C4),
 fY c g w vo s f vv vs 0 0->xi vs=v.map (·.name)->uK (.mk k a td tc tg th) m=true->(yr c.p ft (.mk k a td tc tg th) v frm ti j).1=0->kU c.B w d tc->f6 c.B w i tg->f6 c.B w e th->
 Cy 102 #[(c.b,0),(f,0),.agg #[(k:Int),(a:Int),td,d,i,e]] w (yP c vo f vv vs s w (qn c.p g vs (.mk k a td tc tg th) s))
theorem O7.call{c:gJ}{g:Nat}(l:O7 c g){w:C3}{vo:C4}{s:RS}{f:Nat}{vv:C4}{vs:fG}{ft:Int}{v:List Pa}{frm:Nat}{ti:Bool}{j:Nat}{k a:Int}{td:C2}{tc:List Ex}{tg th:List St}{m:Nat}{d i e:C4}
 (n:fY c g w vo s f vv vs 0 0) (o:xi vs=v.map (·.name)) (q:uK (.mk k a td tc tg th) m=true) (r:(yr c.p ft (.mk k a td tc tg th) v frm ti j).1=0) (t:kU c.B w d tc) (u:f6 c.B w i tg) (x:f6 c.B w e th):
 Cy 102 #[(c.b,0),(f,0),.agg #[(k:Int),(a:Int),td,d,i,e]] w (yP c vo f vv vs s w (qn c.p g vs (.mk k a td tc tg th) s)):=
 l w vo s f vv vs ft v frm ti j k a td tc tg th m d i e n o q r t u x
def JP(c:gJ)(g:Nat):Prop:=∀(w:C3) (vo:C4) (s:RS) (f:Nat) (vv:C4) (vs:fG) (ft:Int) (v:List Pa) (frm:Nat) (ti:Bool) (d:Nat) (l:List St) (m:Nat) (a:C4),
 fY c g w vo s f vv vs 0 0->xi vs=v.map (·.name)->fL l m=true->(zX c.p ft l v frm ti d).1=0->f6 c.B w a l->
 Cy 75 #[(c.b,0),(f,0),a] w (yP c vo f vv vs s w (qG (qn c.p g) vs l s))
theorem JP.call{c:gJ}{g:Nat}(e:JP c g){w:C3}{vo:C4}{s:RS}{f:Nat}{vv:C4}{vs:fG}{ft:Int}{v:List Pa}{frm:Nat}{ti:Bool}{d:Nat}{l:List St}{m:Nat}{a:C4}
 (i:fY c g w vo s f vv vs 0 0) (j:xi vs=v.map (·.name)) (k:fL l m=true) (n:(zX c.p ft l v frm ti d).1=0) (o:f6 c.B w a l):
 Cy 75 #[(c.b,0),(f,0),a] w (yP c vo f vv vs s w (qG (qn c.p g) vs l s)):=
 e w vo s f vv vs ft v frm ti d l m a i j k n o
theorem YD{c:gJ}(f:gK c.p){g:Nat}{w:C3}{vo:C4}{s:RS}(a:wW c g w vo s){vs:fG}{ft:Int}{st:St}{v:List Pa}{frm b m:Nat}{ti:Bool}(d:uK st m=true)(e:(yr c.p ft st v frm ti b).1=0):zr c.p (qn c.p g vs st s):=
 (jV c.p f g).2 ft st v vs frm ti b s m a.fu a.shp d e
theorem YE{c:gJ}(f:gK c.p){g:Nat}{w:C3}{vo:C4}{s:RS}(a:wW c g w vo s){vs:fG}{ft:Int}{l:List St}{v:List Pa}{frm b m:Nat}{ti:Bool}(d:fL l m=true)(e:(zX c.p ft l v frm ti b).1=0):zr c.p (qG (qn c.p g) vs l s):=
 xg (jV c.p f g).2 ft l v vs frm ti b s m a.fu a.shp d e
theorem UB(l:fG):(l.flatMap kV.cs).length=l.length*2:=by
 induction l with
 |nil=>rfl
 |cons x r a=>rw[Y2,Dr,a,D1];show 2+_=_;omega
theorem G1:∀(l:fG) (k:Nat) (s:C2) (z a:Int),l[k]?=some (s,z)->(l.flatMap kV.cs).set (k*2+1) (.int .i64 a)=(l.set k (s,a)).flatMap kV.cs
 |[],_,_,_,_,h=>Xa
 | x::r,0,s,z,a,h=>by
   simp at h;subst h;rfl
 | x::r,k+1,s,z,a,h=>by
   have b:=G1 r k s z a Xq;rw[Y2,List.set_cons_succ,Y2,<-b,List.set_append_right _ _ (by show 2<=_;omega)];show _++List.set _ ((k+1)*2+1-2) _=_;rw[show(k+1)*2+1-2=k*2+1 by omega]
section
variable {L:Nat} {w w' W:C3}{f:Nat} {vv vv':C4}{vs:fG}{how n:Int}
theorem gR.dd(a:gR L w f vv vs how n)(x:Int):gR L (w.setCell (f,1) (x:Int)) f vv vs x n:=
 ⟨D3 a.box _,zQ a.row fun k b=>Dw w _ _ k (fun e=>Hb),a.hL,a.wf,a.nr⟩
theorem gR.setn(a:gR L w f vv vs how n){x:Int}(c:fS x):gR L (w.setCell (f,2) (x:Int)) f vv vs how x:=
 ⟨D3 a.box _,zQ a.row fun k b=>Dw w _ _ k (fun e=>Hb),a.hL,a.wf,c⟩
theorem gR.we(a:gR L w f vv vs how n)(b:Cx w w'):gR L w' f vv vs how n:=a.keep (X:=fun _=>False) (fF.wb _ b) fun _ _ c=>c.elim
theorem gR.pre(c:gR L w f vv vs how n)(d:L<=w.heap.size)(s:C2)(a:Int):
 (w.alloc (.cells #[s,(a:Int)] 131)).ownsRow L 131 2 vv (vs.length+1) ((KY::vs).flatMap kV.cs)/\
 (∀j b,[Value.string s,.int .i64 a][j]?=some b->(w.alloc (.cells #[s,(a:Int)] 131)).cell? ((⟨w.heap.size,0,none⟩:Addr).add j)=some b)/\L<=(w.alloc (.cells #[s,(a:Int)] 131)).heap.size:=
 f4.pre (K:=kV) (ps:=KY::vs) ⟨c.row,fun _ _=>trivial⟩ [.string s,.int .i64 a] d
theorem gR.push(c:gR L w f vv vs how n)(d:Cx w W)(o:W.grownBy w' vv.ownBlock)(q:kj W vv vv'){s:C2}{a:Int}(u:w'.ownsRow L 131 2 vv' (vs.length+1+1) ((KY::vs).flatMap kV.cs++[.string s,.int .i64 a]))(r:fS a):
 gR L (w'.setCell (f,0) vv') f vv' (vs++[(s,a)]) how n/\fF (gG f vv) w (w'.setCell (f,0) vv')/\fM w.heap.size vv vv'/\w'.heap[f]?=some (P3 vv how n):=by
 have m:=c.lt;have p:vv.ownBlock≠some f:=c.apart;have l:w'.heap[f]?=some (P3 vv how n):=((o.block f (Yb m d.size) fun e=>p e.symm).trans (d.block f m)).trans c.box
 have t:vv'.ownBlock≠some f:=by
  rcases q with i|⟨g,i,_⟩
  .rw[i];exact p
  .rw[i];intro e;injection e with e;have:=d.size;omega
 refine⟨⟨D3 l _,?_,c.hL,?_,c.nr⟩,?_,fM.di q d.size,l⟩
 .rw[Dr]
  have e:(KY::(vs++[(s,a)])).flatMap kV.cs=(KY::vs).flatMap kV.cs++[.string s,.int .i64 a]:=by
   rw[<-Yv,List.flatMap_append];rfl
  rw[e];exact zQ u fun k j=>Dw w' _ _ k (fun e=>by have e:k=f:=e;subst e;exact t j)
 .intro x b
  rcases List.mem_append.1 b with b|b
  .exact c.wf x b
  .rw[List.mem_singleton.1 b];exact r
 .refine((fF.wb (gG f vv) d).trans (fF.grown (X:=gG f vv) o fun k j=>.inr j) fun _ _ b=>b).trans (fF.set (X:=gG f vv) w' (.inl rfl) 0 vv') fun _ _ b=>b
theorem gR.put(c:gR L w f vv vs how n){s:C2}{k:Nat}{a:Int}(m:ja vs s=some k)(B:fS a):
 ∃g j,vv=.slice (some ⟨g,0,none⟩) (vs.length+1) j/\g<w.heap.size/\k+1<vs.length+1/\(∀o,w.frozen? ⟨g,o,none⟩=false)/\(∃M,w.cell? ⟨g,(k+1)*2+1,none⟩=some (.int .i64 M))/\
   gR L (w.setCell (g,(k+1)*2+1) (a:Int)) f vv (xH vs s a) how n/\fF (gG f vv) w (w.setCell (g,(k+1)*2+1) (a:Int)):=by
 have N:=CX m;have D:vv.ownBlock≠some f:=c.apart;have p:xH vs s a=vs.set k (s,a):=by unfold xH;rw[m]
 have E:∃z,vs[k]?=some (s,z):=by
  have b:=rE m;rw[xi,Yn]at b;cases i:vs[k]? with
  |none=>rw[i]at b;cases b
  |some x=>rw[i]at b;injection b with b;exact⟨x.2,by rw[<-b]⟩
 obtain⟨z,r⟩:=E;obtain⟨g,j,b,_,v,_,y,A⟩:=c.cells;have C:=y (k+1) (s,z) Gc;rcases c.row.2 with⟨_,_⟩|⟨_,_,t,q,F,G,H,I,J,K⟩
 .omega
 rw[b]at q;injection q with d _ u;injection d with d;injection d with d _ _;subst d u;refine⟨g,j,b,v,O,A,⟨z,C.2⟩,⟨?_,?_,c.hL,?_,c.nr⟩,fF.set (X:=gG f vv) w (.inr (by rw[b];rfl)) _ _⟩
 .refine(Dw w _ _ f (fun e=>D ?_)).trans c.box
  have e:f=g:=e;rw[b,e];rfl
 .rw[p,Yw]
  have e:(KY::vs.set k (s,a)).flatMap kV.cs=((KY::vs).flatMap kV.cs).set ((k+1)*2+1) (.int .i64 a):=(G1 (KY::vs) (k+1) s z a Gc).symm;refine⟨by rw[UB];simp,.inr ⟨g,j,t.setIfInBounds ((k+1)*2+1) (.int .i64 a),b,F,D3 G _,H,I,by simpa using J,?_⟩⟩;rw[e,<-K,Array.toList_setIfInBounds,List.take_set]
 .intro x i
  rw[p]at i;rcases Cu i with l|l
  .exact c.wf x l
  .rw[l];exact B
end
theorem gG.to{f L:Nat}{vv vv':C4}(b:fM L vv vv'){k:Nat}(c:k<L)(d:gG f vv' k):gG f vv k:=by
 rcases d with a|a
 .exact .inl a
 .exact .inr (b.old c a)
theorem O8(l:fG)(m:Nat):(l.flatMap kV.cs).take (m*2)=(l.take m).flatMap kV.cs:=by
 induction l generalizing m with
 |nil=>simp
 |cons x r a=>
   cases m with
   |zero=>simp
   |succ m=>
     rw[Y6,Y2,Y2,<-a m,show(m+1)*2=2+m*2 by omega,List.take_append,Ye (by show 2<=_;omega),show 2+m*2-(kV.cs x).length=m*2 by show 2+m*2-2=_;omega]
theorem gR.cut{L:Nat}{w:C3}{f:Nat}{b:Option Addr}{c:Nat}{vs:fG}{how n:Int}(a:gR L w f (.slice b (vs.length+1) c) vs how n){m:Nat}(i:m<=vs.length):
 gR L (w.setCell (f,0) (b,(m+1),c)) f (.slice b (m+1) c) (vs.take m) how n:=by
 refine⟨D3 a.box _,?_,a.hL,fun x j=>a.wf x (List.mem_of_mem_take j),a.nr⟩;have d:=CL a.row (show m+1<=vs.length+1 by omega);rw[O8]at d;have e:(KY::vs).take (m+1)=KY::vs.take m:=rfl;rw[e]at d;rw[Yg,Ca i]
 exact zQ d fun k g=>Dw w _ _ k (fun e=>by
  have e:k=f:=e;subst e
  exact a.apart (by rw[<-g];cases b<;>rfl))
structure f2 (c:gJ) (w:C3) (vo:C4) (s:RS) (f:Nat) (vv:C4) (vs:fG) (wr:C3) (vo1 vv1:C4) (vs1:fG) (how1 n1:Int) (t:RS):Prop where
 run:fP c wr vo1 t
 frm:gR c.L wr f vv1 vs1 how1 n1
 off:fF (fun k=>f8 c vo k\/gG f vv k) w wr
 to1:fM w.heap.size vo vo1
 to2:fM w.heap.size vv vv1
 le:vs.length<=vs1.length
 sum:vs1.length+t.fuel<=vs.length+s.fuel
section
variable {c:gJ}{w:C3}{vo:C4}{s:RS}{f:Nat}{vv:C4}{vs:fG}{wr:C3}{vo1 vv1:C4}{vs1:fG}{how1 n1:Int}{t:RS}
theorem f2.start{g:Nat}{how n:Int}(h:fY c g w vo s f vv vs how n):f2 c w vo s f vv vs w vo vv vs how n s:=
 ⟨h.l.run,h.frm,fF.refl _ _,fM.refl _ _,fM.refl _ _,D0 _,D0 _⟩
theorem f2.post{r:fR xx}{e:Ending}{m:C3}(a:f2 c w vo s f vv vs wr vo1 vv1 vs1 how1 n1 t)(A:yP c vo1 f vv1 vs1 t wr r e m):
 e=.returned (.tuple #[])/\∃i j g d n2,f2 c w vo s f vv vs m i j g d n2 r.st/\∀a t,r=.ok a t->g=a.2.2/\d=a.1/\n2=a.2.1:=by
 obtain⟨i,j,g,d,n2,n,o,p,q,u,v,x,y,z⟩:=A;refine⟨n,i,j,g,d,n2,⟨o,p,?_,a.to1.trans u a.off.size,a.to2.trans v a.off.size,Dz a.le x,Dz y a.sum⟩,z⟩
 exact a.off.trans q fun k l b=>by
  rcases b with b|b
  .exact .inl (f8.to a.to1 l b)
  .exact .inr (gG.to a.to2 l b)
theorem f2.exo{g:C3}{e:C4}{d:RS}(a:f2 c w vo s f vv vs wr vo1 vv1 vs1 how1 n1 t)(l:fP c g e d)(i:fF (f8 c vo1) wr g)(m:fM wr.heap.size vo1 e)(_:d.fuel<=t.fuel):f2 c w vo s f vv vs g e vv1 vs1 how1 n1 d:=
 ⟨l,a.frm.keep i fun k _ b=>i6 a.run a.frm b,a.off.trans i fun k j b=>.inl (f8.to a.to1 j b),a.to1.trans m a.off.size,a.to2,a.le,by have:=a.sum;omega⟩
theorem f2.off'(b:f2 c w vo s f vv vs wr vo1 vv1 vs1 how1 n1 t){e:C3}{X:Nat->Prop}(i:fF X wr e)(g:∀k,k<wr.heap.size->X k->f8 c vo1 k\/gG f vv1 k):fF (fun k=>f8 c vo k\/gG f vv k) w e:=
 (b.off.trans (i.mono g) fun k d a=>by
   rcases a with a|a
   .exact .inl (f8.to b.to1 d a)
   .exact .inr (gG.to b.to2 d a))
theorem t8(a:fP c wr vo1 t)(b:gR c.L wr f vv1 vs1 how1 n1)(i:Nat)(d:C4):fP c (wr.setCell (f,i) d) vo1 t:=
 a.keep (X:=fun k=>k=f) (fF.set (X:=fun k=>k=f) wr rfl i d) fun k _ e=>⟨by have:=b.hL;have:=a.ord;omega,fun g=>i6 a b g (.inl e)⟩
theorem f2.done{d:Option Addr}{e:Nat}{F:fG->St->RS->fR xx}{l:List St}{r:fR xx}(b:f2 c w vo s f vv vs wr vo1 (.slice d (vs1.length+1) e) vs1 how1 n1 t)(m:kG F vs l s=r)(C:r.st=t)(A:∀b t,r=.ok b t->vs1=b.2.2/\how1=b.1/\n1=b.2.1):
 yP c vo f vv vs s w (qG F vs l s) (.returned (.tuple #[])) (wr.setCell (f,0) (d,(vs.length+1),e)):=by
 have n:(qG F vs l s).st=t:=by
  unfold qG;rw[m,<-C];cases r<;>rfl
 have B:fP c (wr.setCell (f,0) (d,(vs.length+1),e)) vo1 t:=t8 b.run b.frm 0 _
 have D:fM w.heap.size vv (.slice d (vs.length+1) e):=by
  rcases b.to2 with j|⟨g,j,z⟩
  .exact .inl (by rw[<-j];cases d<;>rfl)
  .exact .inr ⟨g,by rw[<-j];cases d<;>rfl,z⟩
 refine⟨vo1,_,_,how1,n1,rfl,n▸B,b.frm.cut b.le,b.off' (fF.set (X:=gG f (.slice d (vs1.length+1) e)) wr (.inl rfl) 0 _) fun k _ E=>.inr E,b.to1,D,?_,?_,?_⟩
 .rw[Yg,Ca b.le];exact D0 _
 .rw[Yg,Ca b.le,n];have:=b.sum;have:=b.le;omega
 .intro q _ i
  unfold qG at i;rw[m]at i;cases r with
  |fin x=>cases i
  |ok a x=>
    obtain⟨o,p,v⟩:=A a x rfl;injection i with y _;subst y;exact⟨by rw[o],p,v⟩
end
def BkA(c:gJ)(g:Nat)(ft:Int)(vs:fG)(l:List St)(s:RS)(i:Nat)(vs1:fG)(how1 n1:Int)(t:RS):Prop:=
 how1=0/\n1=0/\gP c.p t/\t.fuel<=g/\kG (qn c.p g) vs l s=kG (qn c.p g) vs1 (l.drop i) t/\∃v frm ti a,xi vs1=v.map Pa.name/\(zX c.p ft (l.drop i) v frm ti a).1=0
def BkB(c:gJ)(g:Nat)(vs:fG)(l:List St)(s:RS)(vs1:fG)(how1 n1:Int)(t:RS):Prop:=
 ∃r,kG (qn c.p g) vs l s=r/\r.st=t/\(t.spent || decide (t.stat≠0))=r.isFin/\∀h u,r=.ok h u->vs1=h.2.2/\how1=h.1/\n1=h.2.1/\how1≠0
theorem YF{c:gJ}{g:Nat}{ft:Int}{vs:fG}{l:List St}{s:RS}{i:Nat}{vs1:fG}{t:RS}{k j:Int}{td:C2}{tc:List Ex}{tg th:List St}{C:fG}{B n2:Int}{v:List Pa}{frm n1:Nat}{ti:Bool}
 (y:kG (qn c.p g) vs l s=kG (qn c.p g) vs1 (l.drop i) t) (A:l[i]?=some (.mk k j td tc tg th)) (_:t.fuel<=g) (z:zr c.p (qn c.p g vs1 (.mk k j td tc tg th) t)) (K:xi vs1=v.map Pa.name) (I:(zX c.p ft (l.drop (i+1)) (H2 (.mk k j td tc tg th) v) frm ti n1).1=0)
 (J:∀f n,qn c.p g vs1 (.mk k j td tc tg th) t=.ok f n->C=f.2.2/\B=f.1/\n2=f.2.1):
 BkA c g ft vs l s (i+1) C B n2 (qn c.p g vs1 (.mk k j td tc tg th) t).st\/BkB c g vs l s C B n2 (qn c.p g vs1 (.mk k j td tc tg th) t).st:=by
 have u:=kC z;have E:=iD c.p g vs1 k j td tc tg th t;cases hr:qn c.p g vs1 (.mk k j td tc tg th) t with
 |fin n=>
   rw[hr]at u;exact .inr ⟨.fin n,by rw[y,xB A];exact NP hr,rfl,u,fun f x e=>Uu⟩
 |ok f n=>
   obtain⟨o,w,D⟩:=J f n hr;by_cases m:f.1=0
   .refine .inl ⟨w.trans m,D.trans (SA c.p g vs1 _ t hr (by rw[m];decide)),?_,?_,?_,?_⟩
    .rw[hr]at z;exact z
    .have:=((ks c.p g vs1 (.mk k j td tc tg th) t).at hr).1
     show n.fuel<=g;omega
    .rw[y,xB A]
     obtain⟨a,b,d⟩:=f;dsimp only at m o;subst m o;exact NN hr
    .rw[hr]at E
     obtain⟨q,G,H⟩:=E;refine⟨_,frm,ti,n1,?_,I⟩;rw[o,G,H m,K];show _=(jd k j td v).map Pa.name;unfold ua jd;by_cases r:k=1
     .rw[Dq r,Dq r,Yj];rfl
     .rw[Dp r,Dp r,Yd]
   .rw[hr]at u
    refine .inr ⟨.ok f n,by rw[y,xB A];exact NO hr m,rfl,u,fun _ _ e=>?_⟩;injection e with F _;subst F;exact⟨o,w,D,by rw[w];exact m⟩
section
variable {c:gJ}{w:C3}{vo:C4}{s:RS}{f:Nat}{vv:C4}{vs:fG}{wr:C3}{vo1 vv1:C4}{vs1:fG}{how1 n1:Int}{t:RS}
theorem G2(d:fP c wr vo1 t)(b:gR c.L wr f vv1 vs1 how1 n1){g:C3}(i:fF (gG f vv1) wr g):fP c g vo1 t:=
 d.keep i fun k _ e=>⟨by
  have:=b.hL;have:=d.ord;rcases e with a|a
  .have a:k=f:=a;omega
  .have:=(zT b.row k a).2;omega,fun j=>i6 d b j e⟩
theorem f2.push(b:f2 c w vo s f vv vs wr vo1 vv1 vs1 how1 n1 t){W w8:C3}{d:C4}{g:C2}{a:Int}(m:Cx wr W)(n:W.grownBy w8 vv1.ownBlock)(o:kj W vv1 d)(p:w8.ownsRow c.L 131 2 d (vs1.length+1+1) ((KY::vs1).flatMap kV.cs++[.string g,.int .i64 a]))(l:fS a)(q:vs1.length+1+t.fuel<=vs.length+s.fuel):
 f2 c w vo s f vv vs (w8.setCell (f,0) d) vo1 d (vs1++[(g,a)]) how1 n1 t:=by
 obtain⟨i,e,j,_⟩:=b.frm.push m n o p l;exact⟨G2 b.run b.frm e,i,b.off' e fun k _ r=>.inr r,b.to1,b.to2.trans j b.off.size,by rw[Dr];have:=b.le;omega,by rw[Dr];exact q⟩
theorem f2.vput(a:f2 c w vo s f vv vs wr vo1 vv1 vs1 how1 n1 t){d:C3}{b:fG}{i n2:Int}(j:gR c.L d f vv1 b i n2)(g:fF (gG f vv1) wr d)(e:b.length=vs1.length):f2 c w vo s f vv vs d vo1 vv1 b i n2 t:=
 ⟨G2 a.run a.frm g,j,a.off' g fun k _ l=>.inr l,a.to1,a.to2,by rw[e];exact a.le,by rw[e];exact a.sum⟩
theorem O9(vs:fG)(s:C2)(n:Int):(xH vs s n).length=vs.length:=by
 unfold xH;split
 .rw[Yw]
 .rfl
theorem fP.print(d:fP c wr vo1 t){w8:C3}{i:C4}{a:Int}{o:Obj}(w:(wr.alloc o).grownBy w8 vo1.ownBlock)(I:kj (wr.alloc o) vo1 i)(A:w8.ownsRow c.L 3 1 i (t.o.length+1) (t.o.map (Value.int .i64)++[.int .i64 a]))(E:t.o.length+1<=t.cost):
 fP c (w8.setCell (c.b,6) i) i { t with o:=t.o++[a] }/\fF (f8 c vo1) wr (w8.setCell (c.b,6) i)/\fM wr.heap.size vo1 i/\w8.heap[c.b]?=some (rnO c (Classical.choose d.box) vo1 t):=by
 have r:=d.ord;have J:(wr.alloc o).heap.size=wr.heap.size+1:=zA _ _;have u:Cx wr (wr.alloc o):=Zb.alloc Zr _;have v:=Cp d.box;have q:∀k,vo1.ownBlock=some k->c.L<=k:=fun k f=>(d.dl f).1
 have z:∀k,k<wr.heap.size->vo1.ownBlock≠some k->w8.heap[k]?=wr.heap[k]?:=fun k f G=>(w.block k O fun e=>G e.symm).trans (u.block k f)
 have s:w8.heap[c.b]?=some (rnO c (Classical.choose d.box) vo1 t):=(z c.b d.lt fun e=>by have:=q _ e;omega).trans v.2;have H:∀k,i.ownBlock=some k->c.L<=k:=fun k f=>(zT A k f).2
 have p:fF (f8 c vo1) wr (w8.setCell (c.b,6) i):=
  ((fF.wb (f8 c vo1) u).trans (fF.grown (X:=f8 c vo1) w fun k f=>.inr f) fun _ _ m=>m).trans (fF.set (X:=f8 c vo1) w8 (.inl ⟨D0 _,r.2.1⟩) 6 i) fun _ _ m=>m
 have y:∀k,k<wr.heap.size->k≠c.b->vo1.ownBlock≠some k->(w8.setCell (c.b,6) i).heap[k]?=wr.heap[k]?:=fun k f C D=>(Dw w8 _ _ k C).trans (z k f D)
 have n:Below c.B wr (w8.setCell (c.b,6) i):=d.below p fun k _ m=>(d.tch m).1
 refine⟨⟨⟨_,v.1.below n Zr,D3 s _⟩,d.pa.below n Zr,d.pf.below n Zr,?_,?_,d.rol,d.len,?_,d.lim,d.nod,d.inn,d.arn,d.num,d.alen,?_,d.fc,⟨r.1,r.2.1,by have:=p.size;omega⟩⟩,p,fM.di I O,s⟩
 .rw[Dr,Yj]
  exact zQ A fun k f=>Dw w8 _ _ k (fun e=>by have:=H k f;have e:k=c.b:=e;omega)
 .exact zQ d.row fun k f=>y k (zT d.row k f).1 (by have:=(zT d.row k f).2;omega) fun e=>by have:=q k e;have:=(d.rol k f).1;omega
 .intro j g l x F
  have:=d.lim g (Yc x);exact(y g O O fun e=>by have:=q g e;omega).trans (d.arr j g l x F)
 .rw[Dr];exact E
theorem fP.store(a:fP c wr vo1 t){k g d:Nat}{l:List Int}{n:Int}(p:c.rows[k]?=some g)(w:t.arr[k]?=some l)(_:d<l.length)(P:fS n):
 fP c (wr.setCell (g,d) (n:Int)) vo1 { t with arr:=t.arr.set k (l.set d n) }/\fF (f8 c vo1) wr (wr.setCell (g,d) (n:Int)):=by
 have I:=a.ord;have M:=a.lim g (Yc p);have H:=(List.getElem?_eq_some_iff.1 w).1;have C:fF (f8 c vo1) wr (wr.setCell (g,d) (n:Int)):=fF.set (X:=f8 c vo1) wr (.inl ⟨O,M.2⟩) d _;have v:∀q,q≠g->(wr.setCell (g,d) (n:Int)).heap[q]?=wr.heap[q]?:=fun q u=>Dw wr _ _ q u
 have z:Below c.B wr (wr.setCell (g,d) (n:Int)):=a.below C fun k _ D=>(a.tch D).1
 obtain⟨R,Q,D⟩:=a.box;refine⟨⟨⟨R,Q.below z Zr,(v c.b O).trans D⟩,a.pa.below z Zr,a.pf.below z Zr,?_,?_,a.rol,by show c.rows.length=(t.arr.set _ _).length;rw[Yw];exact a.len,?_,a.lim,a.nod,a.inn,?_,by show(t.arr.set _ _).length<=_;rw[Yw];exact a.num,by show(t.arr.set _ _).length=_;rw[Yw];exact a.alen,a.oc,a.fc,⟨I.1,I.2.1,by have:=C.size;omega⟩⟩,C⟩
 .exact zQ a.o fun q u=>v q (by have:=(a.dl u).1;omega)
 .show(wr.setCell _ _).ownsRow _ _ 1 c.vr (t.arr.set k (l.set d n)).length ((c.rows.zip (t.arr.set k (l.set d n))).map AP)
  rw[Yw]
  have e:(c.rows.zip (t.arr.set k (l.set d n))).map AP=(c.rows.zip t.arr).map AP:=by
   refine List.ext_getElem? fun i=>?_
   rw[Yn,Yn];by_cases G:i=k
   .subst G
    have J:(c.rows.zip t.arr)[i]?=some (g,l):=by rw[Cq];exact⟨p,w⟩
    have K:(c.rows.zip (t.arr.set i (l.set d n)))[i]?=some (g,l.set d n):=by rw[Cq];exact⟨p,by rw[List.getElem?_set_self H]⟩
    rw[J,K];show some (AP _)=some (AP _);unfold AP;rw[Yw]
   .have L:(c.rows.zip (t.arr.set k (l.set d n)))[i]?=(c.rows.zip t.arr)[i]?:=by
     simp only[List.zip,List.getElem?_zipWith,List.getElem?_set_ne (fun e=>G e.symm)]
    rw[L]
  rw[e];exact zQ a.row fun q u=>v q (fun e=>by subst e;exact(a.rol q u).2 (Yc p))
 .intro j E x r f
  have f:(t.arr.set k (l.set d n))[j]?=some x:=f;by_cases A:j=k
  .subst A
   rw[p]at r;injection r with r;subst r;rw[List.getElem?_set_self H]at f;injection f with f;subst f;have s:=D3 (i:=d) (a.arr j g l p w) (.int .i64 n);rw[s];congr 2;apply Array.ext';simp
  .rw[List.getElem?_set_ne (fun e=>A e.symm)]at f
   refine(v E fun e=>A ?_).trans (a.arr j E x r f);subst e;exact(List.getElem?_inj (List.getElem?_eq_some_iff.1 r).1 a.nod).1 (r.trans p.symm)
 .intro x f
  rcases Cu f with s|s
  .exact a.arn x s
  .subst s
   have F:=a.arn l (Yc w);refine⟨fun m N=>?_,by rw[Yw];exact F.2⟩;rcases Cu N with y|y
   .exact F.1 m y
   .rw[y];exact P
end
theorem o0{p:Pr}:∀{l:List Fu}{i:Nat},(uQ p l i).1=0->∀f∈l,(yj p f).1=0
 |[],_,_,f,a=>Ur
 | x::r,i,h,f,a=>by
   rw[uQ]at h;by_cases b:(yj p x).1=0
   .rw[Dp Uo]at h
    rcases List.mem_cons.1 a with rfl|a
    .exact b
    .exact o0 h f a
   .rw[Dq b]at h;exact absurd h b
theorem iP{p:Pr}(a:(yt p).1=0):f5 p=true/\gK p/\∃f,jT p ⟨#[109,97,105,110]⟩=some f/\f.params=[]:=by
 unfold yt at a;by_cases i:f5 p=false
 .rw[Dq i]at a;exact absurd a (by show(1 :Int)≠0;decide)
 rw[Dp i]at a;have g:f5 p=true:=by simpa using i
 by_cases e:(uR p p.wa || us p.funcs || !xe p)=true
 .rw[Dq e]at a;exact absurd a Xv
 rw[Dp e]at a;refine⟨g,fun f d=>⟨?_,?_⟩,?_⟩
 .have b:=o0 a f d
  unfold yj at b;by_cases k:lL f.params=true
  .rw[Dq k]at b;exact absurd b Xv
  rw[Dp k]at b;by_cases j:(zX p f.type f.body f.params f.params.length false 0).1=0
  .exact j
  .rw[Dq j]at b;exact absurd b j
 .unfold f5 at g
  rw[D2]at g;have:=List.all_eq_true.1 g.2 f d;unfold yh at this;simp only[D2]at this;exact this.2
 .have c:xe p=true:=by
   simp only[Bool.or_eq_true,not_or,Bool.not_eq_true',Bool.not_eq_false]at e;simpa using e.2
  unfold xe at c;cases d:jT p ⟨#[109,97,105,110]⟩with
  |none=>rw[d]at c;cases c
  |some f=>
    rw[d]at c;simp only[D2,decide_eq_true_eq]at c;exact⟨f,rfl,List.length_eq_zero_iff.1 c.2⟩
def kx(p:Pr)(b:List Int)(F:Nat):RS:=⟨p.wa.map fun a=>List.replicate a.size.toNat 0,b,[],0,F,0,false⟩
def UC:fR xx->Int×Int×List Int×Nat×Nat
 |.ok h s=>(1,h.2.1,s.o,s.cost,s.fuel)
 |.fin s=>(s.stat,0,s.o,s.cost,s.fuel)
theorem BQ{p:Pr}(b:(yt p).1≠0)(c:List Int)(a:Int):vM p c a=(0,0,[],0,0):=by unfold vM;rw[Dq b]
theorem t9{p:Pr}(d:(yt p).1=0){f:Fu}(e:jT p ⟨#[109,97,105,110]⟩=some f)(c:List Int)(b:Int):vM p c b=UC (qG (qn p b.toNat) [] f.body (kx p c b.toNat)):=by
 unfold vM;rw[Dp Uy,e];show(match qG (qn p b.toNat) [] f.body (kx p c b.toNat)with | .ok d s=>_ | .fin s=>_)=_;cases qG (qn p b.toNat) [] f.body (kx p c b.toNat)with
 |ok a t=>rfl
 |fin t=>rfl
theorem LK(p:Pr)(a:List Int)(F:Nat):gP p (kx p a F):=⟨He,rfl,rfl⟩
theorem UD{p:Pr}(c:(yt p).1=0){f:Fu}(d:jT p ⟨#[109,97,105,110]⟩=some f)(b:List Int)(F:Nat):zr p (qG (qn p F) [] f.body (kx p b F)):=by
 obtain⟨_,a,_⟩:=iP c;obtain⟨e,g⟩:=a f (hV d);exact xg (jV p a F).2 f.type f.body f.params [] _ _ _ _ 100 Zr (LK p b F) g e
def gS(p:Pr)(i:Nat):List (List Int):=(p.wa.take i).map fun a=>List.replicate a.size.toNat 0
theorem PA(p:Pr){i:Nat}(_:i<=p.wa.length):(gS p i).length=i:=by unfold gS;rw[Yh,Yg];omega
theorem v6{p:Pr}{i:Nat}{a:Ar}(h:p.wa[i]?=some a):gS p (i+1)=gS p i++[List.replicate a.size.toNat 0]:=by
 unfold gS;rw[Yt,h,Yj];rfl
theorem PB(p:Pr):gS p p.wa.length=p.wa.map fun a=>List.replicate a.size.toNat 0:=by unfold gS;rw[Cj]
abbrev ruO(a b c d:C4)(F:Nat):Obj:=.cells #[a,b,c,d,(0:Int),(0:Int),(),(0:Int),((F:Int):Int),.bool false] 78
abbrev slO(v:C4):Obj:=.cells #[v] 23
structure JQ (bb:Nat) (p:Pr) (va vf vi:C4) (F:Nat) (wr:C3) (vr:C4) (rows:List Nat) (i:Nat):Prop where
 len:rows.length=i
 box:wr.heap[bb]?=some (ruO va vf vi vr F)
 row:wr.ownsRow (bb+1) 23 1 vr i ((rows.zip (gS p i)).map AP)
 rol:∀k,vr.ownBlock=some k->k ∉ rows
 arr:∀(j g:Nat) (l:List Int),rows[j]?=some g->(gS p i)[j]?=some l->wr.heap[g]?=some (oJ l)
 lim:∀g∈rows,bb<g/\g<wr.heap.size
 nod:rows.Nodup
theorem JQ.next{d:Nat}{p:Pr}{A B C:C4}{F:Nat}{wr:C3}{q:C4}{t:List Nat}{i:Nat}(c:JQ d p A B C F wr q t i){a:Ar}(D:p.wa[i]?=some a){W w8:C3}{n:C4}
 (u:Cx wr W) (_:W.heap.size=wr.heap.size+2) (G:W.heap[wr.heap.size]?=some (oJ (List.replicate a.size.toNat 0))) (r:W.grownBy w8 q.ownBlock) (J:kj W q n)
 (K:w8.ownsRow (d+1) 23 1 n (i+1) ((t.zip (gS p i)).map AP++[.slice (some ⟨wr.heap.size,0,none⟩) a.size.toNat a.size.toNat])):
 w8.heap[d]?=some (ruO A B C q F)/\JQ d p A B C F (w8.setCell (d,3) n) n (t++[wr.heap.size]) (i+1)/\Below d wr (w8.setCell (d,3) n):=by
 have P:=zB c.box;have v:∀k,q.ownBlock=some k->d+1<=k/\k<wr.heap.size:=fun k b=>⟨(zT c.row k b).2,(zT c.row k b).1⟩
 have E:∀k,k<wr.heap.size->q.ownBlock≠some k->w8.heap[k]?=wr.heap[k]?:=fun k b S=>(r.block k O fun e=>S e.symm).trans (u.block k b)
 have H:w8.heap[d]?=some (ruO A B C q F):=(E d P fun e=>by have:=v _ e;omega).trans c.box;have T:w8.heap[wr.heap.size]?=some (oJ (List.replicate a.size.toNat 0)):=(r.block _ O fun e=>by have:=v _ e.symm;omega).trans G;have Q:=(List.getElem?_eq_some_iff.1 D).1;have z:=PA p (D9 Q);have N:∀k,n.ownBlock=some k->d+1<=k:=fun k b=>(zT K k b).2
 have w:∀k,k≠d->(w8.setCell (d,3) n).heap[k]?=w8.heap[k]?:=fun k b=>Dw w8 _ _ k b
 have Y:wr.heap.size+2<=w8.heap.size:=by have:=r.size;omega
 have X:(t++[wr.heap.size]).zip (gS p (i+1))=t.zip (gS p i)++[(wr.heap.size,List.replicate a.size.toNat 0)]:=by
  rw[v6 D,List.zip_append (by rw[c.len,z])];rfl
 refine⟨H,⟨by rw[Dr,c.len];rfl,D3 H _,?_,?_,?_,?_,?_⟩,?_⟩
 .rw[X,Yj]
  have e:[(wr.heap.size,List.replicate a.size.toNat (0 :Int))].map AP=[.slice (some ⟨wr.heap.size,0,none⟩) a.size.toNat a.size.toNat]:=by
   show[AP _]=_;unfold AP;rw[Cf]
  rw[e];exact zQ K fun k b=>w k (by have:=N k b;omega)
 .intro k b f
  rcases List.mem_append.1 f with f|f
  .rcases J with m|⟨g,m,M⟩
   .exact c.rol k (m▸b) f
   .rw[m]at b;injection b with b;have:=(c.lim k f).2;omega
  .rw[List.mem_singleton]at f
   rcases J with m|⟨g,m,M⟩
   .have:=v k (m▸b);omega
   .rw[m]at b;injection b with b;omega
 .intro j g l o s
  rw[v6 D]at s;by_cases I:j<i
  .rw[Yo (by rw[c.len];exact I)]at o
   rw[Yo (by rw[z];exact I)]at s;have m:=c.lim g (Yc o);refine(w g O).trans ((E g m.2 fun e=>c.rol g e (Yc o)).trans (c.arr j g l o s))
  .have R:j=i:=by
    have:=(List.getElem?_eq_some_iff.1 o).1;rw[Dr,c.len]at this;simp at this;omega
   subst R;rw[Yi (by rw[c.len];exact D0 _),c.len,Yy]at o;rw[Yi (by rw[z];exact D0 _),z,Yy]at s;simp at o s;subst o s;exact(w _ O).trans T
 .intro g f
  have L:(w8.setCell (d,3) n).heap.size=w8.heap.size:=Uk
  rw[L];rcases List.mem_append.1 f with f|f
  .have:=c.lim g f;omega
  .rw[List.mem_singleton]at f;omega
 .rw[List.nodup_append]
  refine⟨c.nod,Uh,fun x G _ V=>?_⟩;rw[List.mem_singleton]at V;have:=(c.lim x G).2;omega
 .refine⟨?_,?_,?_,?_,?_⟩
  .exact r.os.trans u.os
  .exact r.tape.trans u.tape
  .exact r.output.trans u.output
  .have L:(w8.setCell (d,3) n).heap.size=w8.heap.size:=by simp[World.setCell]
   omega
  .exact fun k b=>(w k O).trans (E k O fun e=>by have:=v k e;omega)
theorem JQ.run{f B:Nat}{p:Pr}{q r s:C4}{F:Nat}{wr:C3}{w:C4}{v:List Nat}{d:List Int}(b:JQ f p q r s F wr w v p.wa.length)(x:B<=f)(y:gM B wr q p.wa)(A:gN B wr r p.funcs)(C:k5 B wr s d)(D:fT d)(E:p.wa.all yg=true)(o:p.wa.length<=1000000)(hF:F<=1000000000):
 fP ⟨f,wr.heap.size,B,q,r,w,p,v⟩ wr (.slice none 0 0) (kx p d F):=by
 have z:=zB b.box;have u:(kx p d F).arr=gS p p.wa.length:=(PB p).symm;have e:(kx p d F).arr.length=p.wa.length:=He
 refine⟨⟨s,C,b.box⟩,y,A,Yp _ _ _ _,?_,fun k t=>⟨(zT b.row k t).1,b.rol k t⟩,by rw[e];exact b.len,?_,b.lim,b.nod,D,?_,by rw[e];exact o,e,D0 _,by show 0+F<=_;omega,⟨x,z,D0 _⟩⟩
 .rw[e,u];exact b.row
 .intro j g l i c;rw[u]at c;exact b.arr j g l i c
 .intro l m
  have m:l∈p.wa.map fun a=>List.replicate a.size.toNat (0 :Int):=m
  obtain⟨a,i,rfl⟩:=List.mem_map.1 m;have c:=List.all_eq_true.1 E a i;unfold yg at c;simp only[D2,decide_eq_true_eq]at c;refine⟨fun n o=>?_,by rw[Cf];omega⟩;rw[List.eq_of_mem_replicate o];exact⟨Uf,Uf⟩
