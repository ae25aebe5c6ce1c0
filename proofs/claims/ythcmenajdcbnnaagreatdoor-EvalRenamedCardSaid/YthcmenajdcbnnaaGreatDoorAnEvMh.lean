import Derived.Test.YthcmenajdcbnnaaGreatDoorAnEvMf
import Derived.Shelf.SlMaps.Clone
import Derived.Stop.Asserts
set_option linter.unusedSimpArgs false
set_option linter.unusedVariables false
set_option maxRecDepth 100000
set_option maxHeartbeats 99000000
namespace Go.Proofs.YthcmenajdcbnnaaGreatDoor
open Go.RowKit Tryz Go.Maps
theorem Qk{p:Prop}(h:p:=by
 unfold yQ at a;dsimp only at a;split at a
 .cases a
 .injection a with a;rw[<-a]):p:=h
theorem U4:(Tryz.prog.info? 163).map (fun i=>(i.zero,i.size,i.bytes))=some (some (.map none),1,8):=by kernel_rfl
theorem G5(m k:Nat)(f:C2->C4)(w:C3)(n:eI w m k (.pointer none) f):
 Cy 98 #[.map (some m)] w fun e w'=>e=.returned (.map (some w.heap.size))/\eI w' w.heap.size k (.pointer none) f/\Cx w w'/\w'.heap.size=w.heap.size+1:=by
 obtain⟨D,⟨b,a,g,F,i,c⟩,d⟩:=n;have j:=U g;have p:=fun w=>run_eql_map_nil_sl (P:=Tryz.prog) w 163 _ _ (some m) underlying163
 have l:=C0 (eI (w.alloc (.map b a)) w.heap.size k (.pointer none) f) ⟨D,⟨b,a,(MapKept.heap_alloc w _).1,F,i,c⟩,d⟩;clear g F i c d;go_enter func98,ntmps98;go_wp2;rw[run_callFunc_extern func118 (by kernel_rfl) (by kernel_rfl) (by kernel_rfl) (e:=Extern.MapsClone.clone) (by kernel_rfl),run_maps_clone_sl w 163 j.o];simp only[Result.andThen];rw[Oper.upon_value];go_wp2;rw[run_typeAssert_map_sl _ 163 20 _ _ _ underlying163];simp only[Result.andThen];rw[Oper.upon_value];go_wp2;go_ret;exact⟨rfl,l.o,(D1 _ w).alloc Zr _,zA _ _⟩
theorem eS.enter{G:Gm}{τ:Nat->Lb}{w:C3}{m:Vm}{ab ae ad:C4}{a:Nat}(u:eS G τ w m ab ae (.pointer (some ⟨a,0,none⟩)) ad){c:Fr}{r:List Fr}{p t g:C4}{mp:Nat}{tm n:List Nat}(f:rH G.B τ w r.length a p c t mp g tm n)(V:H6 G.B τ w p r)
 {W w8 w9:C3} {v':C4} {mp':Nat} (i:Cx w W) (q:W.grownBy w8 g.ownBlock) (Y:kn W g v') (F:w8.ownsRow G.B 163 1 v' (c.o.length+1) (n.map (fun m=>Value.map (some m))++[.map (some mp)]))
 (l:Below (w8.setCell (a,3) v').heap.size (w8.setCell (a,3) v') w9) (_:mp'=w8.heap.size) (S:eI w9 mp' c.vs.length (.pointer none) (eV c.vs tm)):
 (∃τ,MW G τ (w9.setCell (a,2) (.map (some mp'))) ⟨m.s,m.v,{ c with o:=c.o++[c.vs.length] } :: r⟩)/\Below G.B w (w9.setCell (a,2) (.map (some mp'))):=by
 obtain⟨τ1,A,D⟩:=FZ i.size Y f.rol;have ag:=i.size;have ah:W.heap.size<=w8.heap.size:=q.size;have aj:(w8.setCell (a,3) v').heap.size=w8.heap.size:=Uu
 have ai:w8.heap.size<=w9.heap.size:=Gf
 have E:=zB f.box;have I:∀b,v'.ownBlock=some b->b<w8.heap.size:=fun b j=>(zo F b j).1
 have K:d1 (fun k=>XE r.length (τ k)) w w8:=((d1.wb (fun k=>XE r.length (τ k)) i).trans (d1.grown (X:=fun k=>g.ownBlock=some k) q fun k d=>d) fun k _ d=>.inr (f.rol k d))
 have L:d1 (fun k=>XE r.length (τ k)) w (w8.setCell (a,3) v'):=K.trans (d1.set (X:=fun k=>k=a) w8 rfl 3 v') fun k _ (d:k=a)=>.inl (by rw[d];exact f.lab)
 have M:d1 (fun k=>XE r.length (τ k)) w w9:=L.trans (d1.wb (fun _=>False) l) fun k _ d=>d.elim
 have x:d1 (fun k=>XE r.length (τ k)) w (w9.setCell (a,2) (.map (some mp'))):=M.trans (d1.set (X:=fun k=>k=a) w9 rfl 2 _) fun k _ (d:k=a)=>.inl (by rw[d];exact f.lab)
 have y:d1 (fun k=>XD r.length (τ k)) w (w9.setCell (a,2) (.map (some mp'))):=x.mono fun k _ d=>by
  rcases d with d|d
  .exact .inl d
  .exact .inr (.inl d)
 have Q:=u.below (X:=XD r.length) y (j4 _).1;have Z:g.ownBlock≠some a:=fun e=>by have:=f.rol a e;rw[f.lab]at this;cases this
 have aa:v'.ownBlock≠some a:=fun e=>by
  have:=D a e;rw[A a E,f.lab]at this;cases this
 have N:w8.heap[a]?=some (FY t c.pl mp g p):=((q.block a O fun e=>Z e.symm).trans (i.block a E)).trans f.box;have P:w9.heap[a]?=some (FY t c.pl mp v' p):=(l.block a O).trans (D0 N _);have T:mp'≠a:=O
 have z:e3 τ (TH τ1 mp' (.vmap r.length (c.o.length+1))) w:=fun k d=>(fT τ1 _ O).trans (A k d)
 have R:=f.enter (τ':=TH τ1 mp' (.vmap r.length (c.o.length+1))) (mp':=mp') (vo':=v') Q x z (D0 P _) ?_ (fun b j=>(fT τ1 _ (by have:=I b j;omega)).trans (D b j)) (fS _ _ _) (S.wd (Dx w9 _ _ mp' T))
 .have H:=u.top rfl y z V R
  exact⟨⟨_,_,_,_,_,H.1⟩,H.2⟩
 .have J:(n++[mp]).map (fun m=>Value.map (some m))=n.map (fun m=>Value.map (some m))++[.map (some mp)]:=by simp
  rw[J];refine zZ F fun k d=>?_
  have af:=I k d;have C:k≠a:=fun e=>aa (e▸d)
  exact((Dx w9 _ _ k C).trans (l.block k O)).trans (Dx w8 _ _ k C)
theorem eS.leave{G:Gm}{τ:Nat->Lb}{w:C3}{m:Vm}{E H F:C4}{a:Nat}(j:eS G τ w m E H (.pointer (some ⟨a,0,none⟩)) F){c:Fr}{r:List Fr}{C P:C4}{mp g i:Nat}{tm A:List Nat}{q:List Nat}{n:Nat}(t:c.o=q++[n])(d:rH G.B τ w r.length a C c P mp (.slice (some ⟨g,0,none⟩) (q.length+1) i) tm A)(M:H6 G.B τ w C r){D:List Nat}{l:Nat}(p:A=D++[l]):
 eS G τ ((w.setCell (a,2) (.map (some l))).setCell (a,3) (.slice (some ⟨g,0,none⟩) q.length i)) ⟨m.s,m.v,{ c with vs:=c.vs.take n,o:=q } :: r⟩ E H (.pointer (some ⟨a,0,none⟩)) F/\Below G.B w ((w.setCell (a,2) (.map (some l))).setCell (a,3) (.slice (some ⟨g,0,none⟩) q.length i)):=by
 have u:d1 (fun k=>XE r.length (τ k)) w ((w.setCell (a,2) (.map (some l))).setCell (a,3) (.slice (some ⟨g,0,none⟩) q.length i)):=
  (d1.set (X:=fun k=>XE r.length (τ k)) w (.inl d.lab) 2 _).trans (d1.set (X:=fun k=>XE r.length (τ k)) _ (.inl d.lab) 3 _) fun _ _ j=>j
 have x:=u.mono (Y:=fun k=>XD r.length (τ k)) fun k _ f=>by
  rcases f with f|f
  .exact .inl f
  .exact .inr (.inl f)
 have J:=j.below (X:=XD r.length) x (j4 _).1;have N:g≠a:=fun e=>by have:=d.rol g rfl;rw[e,d.lab]at this;cases this
 have L:D.length=q.length:=by have:=d.ml;rw[t,p]at this;simp at this;omega
 have z:=d.row;rw[p,show c.o.length=q.length+1 by rw[t];simp]at z;have hcut:=LG z (m:=q.length) O;rw[Nat.mul_one,Yf,List.take_left' (by rw[Yd,L])]at hcut
 have K:=d.leave (vo':=.slice (some ⟨g,0,none⟩) q.length i) J u t p (D0 (D0 d.box _) _) (zZ hcut fun k f=>by
  have f:g=k:=by injection f
  have y:k≠a:=fun e=>N (f.trans e)
  exact(Dx _ _ _ k y).trans (Dx _ _ _ k y)) (fun b I=>d.rol b I)
 exact j.top rfl x (e3.refl τ w) M K
theorem PS{G:Gm}{τ:Nat->Lb}{w:C3}{m:Vm}(a3:MW G τ w m){c:Fr}{r:List Fr}(ah:m.cs=c::r)(_:c.o.length<=1000000000)(aq:c.code[c.pl]?=some .ent):
 Cy 70 #[(G.b,0)] w (gI G w ⟨m.s,m.v,{ c with pl:=c.pl+1,o:=c.o++[c.vs.length] } :: r⟩ (.tuple #[])):=by
 obtain⟨_,_,_,_,z⟩:=a3;obtain⟨a,g,n,_,_,mp,_,_,_,_,_,rfl,I,_,_,_,_,aj,a0,aY,_,a1,⟨T,V,X,Y⟩,ae,ag⟩:=z.wk ah aq;obtain⟨⟨aG,aH,S,aI,aJ,aK,aL,aM,aN,aO⟩,aP⟩:=zJ z.box;obtain⟨⟨aQ,aR,aS,aT,aU⟩,aV⟩:=zT I;have br:=z.lt;have bq:=zB I;have bs:(c.pl:Int)<(n:Int):=O
 have bt:IntKind.i64.wrap ((c.pl:Int)+1)=(c.pl:Int)+1:=Ux
 have bl:a≠g:=fun e=>aj e.symm
 have bm:G.b≠a:=fun e=>aY e.symm
 have bn:G.b≠g:=fun e=>a0 e.symm
 have p:∀i,(w.setCell (a,1) (((c.pl:Int)+1):Int)).cell? ⟨g,i,none⟩=w.cell? ⟨g,i,none⟩:=fun i=>D4 (Dx w _ _ g aj)
 have Z:=(p (c.pl*4)).trans T;have aa:=(p (c.pl*4+1)).trans V;have ab:=(p (c.pl*4+2)).trans X;have ad:=(p (c.pl*4+3)).trans Y;obtain⟨rfl,rfl,rfl,rfl⟩:=a1;have bd:=C0 (True) trivial;have ax:=U ae;have ay:=U ag;have M:(w.setCell (a,1) (((c.pl:Int)+1):Int)).heap.size=w.heap.size:=Uu
 clear z ah aq ae ag I p;go_enter func70,ntmps70;go_wp2_with fail
 go_quiet (fail)
 go_upto_region 3 with fail;have E:=U (ax.o.same (w':=(w.drewN nq).setCell ⟨a,1,none⟩ (((c.pl:Int)+1):Int)) rfl rfl rfl rfl);have aA:=U (qG ay.o (w':=(w.drewN nq).setCell ⟨a,1,none⟩ (((c.pl:Int)+1):Int)) rfl rfl rfl rfl);have be:((w.drewN nq).setCell (a,1) (((c.pl:Int)+1):Int)).cell? (g,c.pl*4)=_:=Z;have bf:((w.drewN nq).setCell (a,1) (((c.pl:Int)+1):Int)).cell? (g,c.pl*4+1)=_:=aa;have bg:((w.drewN nq).setCell (a,1) (((c.pl:Int)+1):Int)).cell? (g,c.pl*4+2)=_:=ab;have bh:((w.drewN nq).setCell (a,1) (((c.pl:Int)+1):Int)).cell? (g,c.pl*4+3)=_:=ad;have bu:((w.drewN nq).setCell (a,1) (((c.pl:Int)+1):Int)).heap.size<=w.heap.size:=Dt M;have bv:w.heap.size<=((w.drewN nq).setCell (a,1) (((c.pl:Int)+1):Int)).heap.size:=Dt M.symm;clear Z aa ab ad M aG aH S aI aJ aK aL aM aN aO aP aQ aR aS aT aU aV T V X Y;generalize(w.drewN nq).setCell (a,1) (((c.pl:Int)+1):Int)=W at *;have bo:g<W.heap.size:=O
 have bp:G.b<W.heap.size:=O
 have aX:a<W.heap.size:=O
 have aZ:=E.o.frs;obtain⟨S,N,P,d,bc,ba,bb,l,q,ao⟩:=aZ;injection l with l;injection l with l;injection l with l _ _;subst l;obtain⟨Ar,y,C⟩:=zb q.row;have x:=U C;obtain⟨⟨_,f1,_,f3,_⟩,_⟩:=zT q.box;rw[C]at f3;have f:=U q;have aE:=U ao;obtain⟨a9,ak,au,av,aw⟩:=info_parts U4;have u:=U (Do ak (Do au (Do av aw)));have bi:G.B<=W.heap.size:=E.o.hB;have af:Cx W (W.alloc (.cells #[.map (some d)] 163)).drew:=((D1 W.heap.size W).alloc Zr _).drew;have aF:=C0 ((W.alloc (.cells #[.map (some d)] 163)).ownsRow G.B 163 1 (.slice Ar c.o.length y) c.o.length (bb.map fun m=>.map (some m))) (C▸qD q.row ((D1 W.heap.size W).alloc Zr _) Zr);have aD:=U (xJ W [.map (some d)] 163);have D:=U af;have bw:(W.alloc (.cells #[.map (some d)] 163)).heap.size=W.heap.size+1:=zA _ _;clear C q ao ak au av aw af;go_wp2_with fail
 go_region_law (first
  | (refine jF rfl (.tmp 100) (.tmp 105) _ rfl G.B 163 a9 _ 1 8 underlying165 u.o.1 u.o.2.1 u.o.2.2.1 u.o.2.2.2 rfl O (.slice Ar c.o.length y) c.o.length _ rfl (by exact qD aF.o Zb.drew Zr) ⟨W.heap.size,0,none⟩ 1 1 [.map (some d)] rfl rfl (by exact aD.o) Uw Uv O (by show G.B<=(W.alloc _).heap.size;omega) O ?_
     intro _ w8 K J ap;obtain⟨j,k,rfl⟩:=zb K
     have A:w8.heap[a]?=some (FY P (c.pl+1) d bc N):=by
      have a4:(Value.slice Ar c.o.length y).ownBlock≠some a:=fun e=>by have:=f.o.rol a (x.o▸e);rw[f.o.lab]at this;cases this
      exact((J.block a (by show a<(W.alloc _).heap.size;omega) fun e=>a4 e.symm).trans (D.o.block a aX)).trans f.o.box
     obtain⟨⟨_,_,_,_,_⟩,_⟩:=zT A;have bk:a<w8.heap.size:=zB A;have t:=U (Do J (Do ap K));have az:=U A
     clear K J ap A))
 all_goals
  have ar:(w8.setCell (a,3) (j,(c.o.length+1),k)).heap[a]?=some (FY P (c.pl+1) d (.slice j (c.o.length+1) k) N):=D0 az.o _;have a8:(w8.setCell (a,3) (j,(c.o.length+1),k)).heap.size=w8.heap.size:=Uu
  have an:eI (w8.setCell (a,3) (j,(c.o.length+1),k)) d c.vs.length (.pointer none) (eV c.vs ba):=by
   have al:=f.o.map.2;have a2:=al.lt;have a5:(Value.slice Ar c.o.length y).ownBlock≠some d:=fun e=>by have:=f.o.rol d (x.o▸e);rw[f.o.map.1]at this;cases this
   have a6:d≠a:=fun e=>by have:=f.o.map.1;rw[e,f.o.lab]at this;cases this
   exact al.wd ((Dx w8 _ _ d a6).trans ((t.o.1.block d (by show d<(W.alloc _).heap.size;omega) fun e=>a5 e.symm).trans (D.o.block d a2)))
  have F:=U ar;have aC:=U an;clear ar an;go_upto_region 23 with fail;generalize hW9:w8.setCell (a,3) (j,(c.o.length+1),k)=W9 at *;obtain⟨⟨_,_,_,_,_⟩,_⟩:=zT F.o;have aW:a<W9.heap.size:=zB F.o;have aB:=U hW9;clear hW9
  go_wp2_with (first
   | (go_at_call 98;(refine(G5 d c.vs.length _ W9 aC.o).mono ?_);rintro e Q ⟨rfl,am,H,a7⟩
      have L:Q.heap[a]?=some (FY P (c.pl+1) d (.slice j (c.o.length+1) k) N):=(H.block a aW).trans F.o;obtain⟨⟨_,_,_,_,_⟩,_⟩:=zT L;have bj:a<Q.heap.size:=zB L;have R:=U (Do am H)
      clear am H a7 L))
  go_end0
  have ai:=E.o.enter f.o aE.o (w8:=w8) (w9:=Q) (v':=.slice j (c.o.length+1) k) (mp':=w8.heap.size) D.o (by rw[x.o];exact t.o.1) (by rw[x.o];exact t.o.2.1) t.o.2.2 (by rw[aB.o];exact R.o.2) rfl (a8▸R.o.1);exact⟨rfl,ai.1,aA.o.trans ai.2⟩
theorem PT{G:Gm}{τ:Nat->Lb}{w:C3}{m:Vm}(aJ:MW G τ w m){c:Fr}{r:List Fr}(S:m.cs=c::r){q:List Nat}{k:Nat}(z:c.o=q++[k])(X:c.o.length<=1000000000)(ab:c.code[c.pl]?=some .lve):
 Cy 70 #[(G.b,0)] w (gI G w ⟨m.s,m.v,{ c with pl:=c.pl+1,vs:=c.vs.take k,o:=q } :: r⟩ (.tuple #[])):=by
 obtain⟨_,_,_,_,x⟩:=aJ;obtain⟨a,g,n,_,_,mp,_,_,_,_,_,rfl,A,_,_,_,_,V,aH,aF,_,aI,⟨H,I,J,K⟩,Q,R⟩:=x.wk S ab;obtain⟨⟨am,an,F,ao,ap,aq,ar,au,av,aw⟩,ax⟩:=zJ x.box;obtain⟨⟨ay,az,aA,aB,aC⟩,aD⟩:=zT A;have aZ:=x.lt;have aY:=zB A;have a0:(c.pl:Int)<(n:Int):=O
 have a6:IntKind.i64.wrap ((c.pl:Int)+1)=(c.pl:Int)+1:=Ux
 have aR:a≠g:=fun e=>V e.symm
 have aT:G.b≠a:=fun e=>aF e.symm
 have aU:G.b≠g:=fun e=>aH e.symm
 have l:∀i,(w.setCell (a,1) (((c.pl:Int)+1):Int)).cell? ⟨g,i,none⟩=w.cell? ⟨g,i,none⟩:=fun i=>D4 (Dx w _ _ g V)
 have L:=(l (c.pl*4)).trans H;have M:=(l (c.pl*4+1)).trans I;have N:=(l (c.pl*4+2)).trans J;have P:=(l (c.pl*4+3)).trans K;obtain⟨rfl,rfl,rfl,rfl⟩:=aI;have aL:=C0 (True) trivial;have af:=U Q;have ag:=U R;have D:(w.setCell (a,1) (((c.pl:Int)+1):Int)).heap.size=w.heap.size:=Uu
 have a4:q.length<=1000000000:=by rw[z]at X;simp at X;omega
 clear x S ab Q R A l;go_enter func70,ntmps70;go_wp2_with fail
 go_quiet (fail)
 go_upto_region 3 with fail;have E:=U (af.o.same (w':=(w.drewN nq).setCell ⟨a,1,none⟩ (((c.pl:Int)+1):Int)) rfl rfl rfl rfl);have ah:=U (qG ag.o (w':=(w.drewN nq).setCell ⟨a,1,none⟩ (((c.pl:Int)+1):Int)) rfl rfl rfl rfl);have aM:((w.drewN nq).setCell (a,1) (((c.pl:Int)+1):Int)).cell? (g,c.pl*4)=_:=L;have aN:((w.drewN nq).setCell (a,1) (((c.pl:Int)+1):Int)).cell? (g,c.pl*4+1)=_:=M;have aO:((w.drewN nq).setCell (a,1) (((c.pl:Int)+1):Int)).cell? (g,c.pl*4+2)=_:=N;have aP:((w.drewN nq).setCell (a,1) (((c.pl:Int)+1):Int)).cell? (g,c.pl*4+3)=_:=P;have a7:((w.drewN nq).setCell (a,1) (((c.pl:Int)+1):Int)).heap.size<=w.heap.size:=Dt D;have a8:w.heap.size<=((w.drewN nq).setCell (a,1) (((c.pl:Int)+1):Int)).heap.size:=Dt D.symm;clear L M N P D am an F ao ap aq ar au av aw ax ay az aA aB aC aD H I J K;generalize(w.drewN nq).setCell (a,1) (((c.pl:Int)+1):Int)=W at *;have aW:g<W.heap.size:=O
 have aX:G.b<W.heap.size:=O
 have aQ:a<W.heap.size:=O
 have aG:=E.o.frs;obtain⟨F,_,_,_,_,_,ad,f,d,aa⟩:=aG;injection f with f;injection f with f;injection f with f _ _;subst f;have ak:=U z;have C:=d.row;have B:c.o.length=q.length+1:=by rw[z];simp
 obtain⟨t,p,y⟩:∃t p,ad=t++[p]:=by
  have j:=d.ml;rcases List.eq_nil_or_concat ad with rfl|⟨t,p,rfl⟩
  .have j:0=c.o.length:=j;omega
  .exact⟨t,p,List.concat_eq_append⟩
 have Z:t.length=q.length:=by have j:=d.ml;rw[y,B]at j;simpa using j
 have Y:({ c with pl:=c.pl+1 }:Fr).o.length=q.length+1:=B;rw[Y]at C;obtain⟨u,aE,rfl,_,_,_,ae,_⟩:=vV C (Ck _);have aV:W.cell? (u,q.length)=some (.map (some p)):=ae q.length _ (by rw[y,Yf,Yi (by rw[Yd,Z];exact Dy _),Yd,Z,Yx];rfl);obtain⟨⟨_,f1,_,f3,_⟩,_⟩:=zT d.box;have aK:u≠a:=fun e=>by have:=d.rol u rfl;rw[e,d.lab]at this;cases this
 have aS:a≠u:=fun e=>aK e.symm
 have ai:=U d;have al:=U aa;have aj:=U y;have a5:IntKind.i64.wrap (((q.length+1 :Nat):Int)-1)=(q.length:Int):=Ux
 have a3:(q.length:Int)<((q.length+1 :Nat):Int):=O
 have a1:q.length<q.length+1:=Nat.lt_succ_self _;have a2:q.length<=aE:=O
 clear d aa C y ae z B Y;go_wp2_with fail
 go_region
 all_goals go_wp2_with fail
 all_goals go_end0
 all_goals
  have T:=E.o.leave (show({ c with pl:=c.pl+1 }:Fr).o=q++[k]from ak.o) ai.o al.o aj.o;exact⟨rfl,⟨_,_,_,_,_,T.1.drew⟩,ah.o.trans T.2.drew⟩
theorem rJ{v:List Int}{x:Int}(h:v.getLast? =some x):v=v.dropLast++[x]:=by
 rcases List.eq_nil_or_concat v with rfl|⟨q,_,rfl⟩
 .cases h
 .rw[List.concat_eq_append]at *
  rw[jS]at h;injection h with h;rw[jA,h]
theorem t4(v:List Int)(a:Nat):v=v.take (v.length-a)++v.drop (v.length-a):=(Ct _ _).symm
theorem DJ{k op n:Int}{td:C2}{a:Nat}(b:zk k op n td a=true)(c:k=3\/k=6\/k=7):uH td=true:=by
 unfold zk at b;rcases c with rfl|rfl|rfl<;>simp at b<;>simp[b]
theorem f0{k op n:Int}{td:C2}{a:Nat}(b:zk k op n td a=true)(c:k=1\/k=2\/k=3\/k=8):a=0:=by
 unfold zk at b;rcases c with rfl|rfl|rfl|rfl<;>simp at b<;>omega
theorem U5{p:Pr}{td:C2}{k:Nat}(a:ze p.wa td=some k):k<p.wa.length:=by
 have c:∀(l:List Ar) (k:Nat),ze l td=some k->k<l.length:=by
  intro l
  induction l with
  |nil=>intro k a;cases a
  |cons x r b=>
    intro k a;rw[ze]at a;split at a
    .injection a with a;subst a;exact Ck _
    .cases hr:ze r td with
     |none=>rw[hr]at a;cases a
     |some j=>rw[hr]at a;injection a with a;have a:j+1=k:=a;have:=b j hr;rw[Dp];omega
 exact c _ _ a
theorem MW.arr{G:Gm}{τ:Nat->Lb}{w:C3}{m:Vm}(h:MW G τ w m):m.s.arr.length=G.p.wa.length:=by
 obtain⟨_,_,_,_,h⟩:=h;obtain⟨_,h⟩:=h.arr;exact h.len
theorem KA{G:Gm}{τ:Nat->Lb}{w:C3}{m:Vm}(i:MW G τ w m){v:C4}{k op n:Int}{td:C2}{tc:List Ex}(o:pG G.B w v (.mk k op n td tc)){c:Fr}{r:List Fr}(J:m.cs=c::r)(N:m.v.length<=1000000000)(u:m.s.cost+1+m.s.fuel<=1000000000)
 (e:pF G.p k op n td tc.length m.s m.v c r≠.bad):
 Cy 94 #[(G.b,0),v] w (DI G w (pF G.p k op n td tc.length m.s m.v c r)):=by
 obtain⟨s,vs,cs⟩:=m;dsimp only at J N u e ⊢;subst J;unfold pF at e ⊢;by_cases F:vs.length<tc.length\/zk k op n td tc.length=false
 .rw[Dm F]at e;exact absurd rfl e
 rw[Dl F]at e ⊢
 have g:zk k op n td tc.length=true:=by
  cases hx:zk k op n td tc.length with
  |true=>rfl
  |false=>exact absurd (.inr hx) F
 have R:tc.length<=vs.length:=O
 have f:=t4 vs tc.length;have M:(vs.drop (vs.length-tc.length)).length=tc.length:=by rw[Yq];omega
 have C:(vs.take (vs.length-tc.length)).length<=1000000000:=Kc
 generalize vs.take (vs.length-tc.length)=q at *;generalize vs.drop (vs.length-tc.length)=l at *;rcases TC g with rfl|rfl|rfl|rfl|rfl|rfl|rfl|rfl
 .have A:=f0 g (.inl rfl)
  rw[Dl Up,Dl Vr,lA _ _ _ _ _ _ _ _ (.inl rfl)]at *;have y:l=[]:=Yj O;subst y;rw[D8]at f;subst f;exact tU i o (.inl rfl) Kr
 .have A:=f0 g (.inr (.inl rfl))
  rw[Dl Up,Dl Vr,lA _ _ _ _ _ _ _ _ (.inr rfl)]at *;have y:l=[]:=Yj O;subst y;rw[D8]at f;subst f;exact tU i o (.inr rfl) Kr
 .have A:=f0 g (.inr (.inr (.inl rfl)))
  have y:l=[]:=Yj O;subst y;rw[D8]at f;subst f;rw[Dl Up]at e ⊢;cases hev:jf c.vs td with
  |none=>rw[Dm (.inl ⟨rfl,hev⟩)]at e;exact absurd rfl e
  |some j=>
    rw[Dl (by rintro(⟨_,d⟩|⟨d,_⟩)<;>cases d),JB];exact JY i o rfl hev (uE (DJ g (.inl rfl))) Kr
 .have A:=(CX g).1 (.inl rfl)
  rw[Dl Up,Dl Vr,JC];obtain⟨a,rfl⟩:=zc4 (l:=l) O;exact JZ i o f C u
 .have A:=(CX g).2 rfl
  rw[Dl Up,Dl Vr,JD];obtain⟨a,b,rfl⟩:=zd7 (l:=l) O;have K:vs=q++[a]++[b]:=by rw[f,D7];rfl
  rw[show([a,b]:List Int).getD 1 0=b from rfl,show([a,b]:List Int).getD 0 0=a from rfl];by_cases D:pQ op b=true
  .rw[Dm D]
   exact tW i o K C D u
  .rw[Dl D]
   exact x0 i o K C (by simpa using D) u
 .have A:=(CX g).1 (.inr rfl)
  rw[Dl Up]at e ⊢;obtain⟨a,rfl⟩:=zc4 (l:=l) O;cases hk:ze G.p.wa td with
  |none=>rw[Dm (.inr ⟨rfl,hk⟩)]at e;exact absurd rfl e
  |some z=>
    rw[Dl (by rintro(⟨d,_⟩|⟨_,d⟩)<;>cases d),JE];have D:=U5 hk;have Q:s.arr.length=G.p.wa.length:=i.arr;obtain⟨E,H⟩:∃E,s.arr[z]?=some E:=⟨_,Dz O⟩
    rw[S8 hk (show(zl s).arr[z]?=some E from H)];by_cases t:0<=a/\a<(E.length:Int)
    .rw[show([a]:List Int).getD 0 0=a from rfl,Dm t]
     exact tX i o f C hk H (uE (DJ g (.inr (.inl rfl)))) t u
    .rw[show([a]:List Int).getD 0 0=a from rfl,Dl t]
     exact x1 i o f C hk H (uE (DJ g (.inr (.inl rfl)))) t u
 .rw[Dm rfl]at e ⊢
  cases hfu:jN G.p td with
  |none=>rw[hfu]at e;exact absurd rfl e
  |some L=>
    rw[hfu]at e;dsimp only at e ⊢;by_cases I:L.params.length=tc.length
    .rw[Dm I]
     exact GS i o f C hfu (M.trans I.symm) (uE (DJ g (.inr (.inr rfl)))) u
    .rw[Dl I]at e;exact absurd rfl e
 .have A:=f0 g (.inr (.inr (.inr rfl)))
  have y:l=[]:=Yj O;subst y;rw[D8]at f;subst f;rw[Dl Up,Dl Vr,FR];unfold k3;cases t:s.inp with
  |nil=>
    rw[show(zl s).inp=[]from t];exact tY i o t u
  |cons x P=>
    rw[show(zl s).inp=x::P from t];exact p8 i o t Kr u
theorem G6{G:Gm}{τ:Nat->Lb}{w:C3}{m:Vm}(f:MW G τ w m){v:C4}{k P:Int}{td:C2}{tc:List Ex}{tg th:List St}(n:oD G.B w v (.mk k P td tc tg th)){c:Fr}{r:List Fr}(D:m.cs=c::r)(M:m.v.length<=1000000000)(N:c.vs.length<=2000000000)(u:m.s.cost+1+m.s.fuel<=1000000000)
 (a:j3 G.p k td m.s m.v c r≠.bad):
 Cy 95 #[(G.b,0),v] w (DI G w (j3 G.p k td m.s m.v c r)):=by
 obtain⟨s,vs,cs⟩:=m;dsimp only at D M u a ⊢;subst D;unfold j3 at a ⊢;cases hlast:vs.getLast? with
 |none=>rw[hlast]at a;exact absurd rfl a
 |some x=>
   rw[hlast]at a;dsimp only at a ⊢;have l:=rJ hlast;have g:vs.dropLast.length<=1000000000:=Jj
   generalize vs.dropLast=q at *;by_cases A:k<=3/\uH td=false
   .rw[Dm A]at a;exact absurd rfl a
   rw[Dl A]at a ⊢
   have t:k<=3->td.size<=maxLen:=fun e=>uE (by
    cases hx:uH td with
    |true=>rfl
    |false=>exact absurd ⟨e,hx⟩ A)
   by_cases F:k=1
   .subst F
    rw[Dm rfl];exact U1 f n l g rfl (t Up) N
   rw[Dl F]at a ⊢;by_cases I:k=2
   .subst I
    rw[Dm rfl]at a ⊢;cases hev:jf c.vs td with
    |none=>rw[Dm hev]at a;exact absurd rfl a
    |some j=>
      rw[Dl (by first|(intro e;cases e;done)|(rw[hev];intro e;cases e))];exact U2 f n l g rfl (t Up) hev
   rw[Dl I]at a ⊢;by_cases J:k=3
   .subst J
    rw[Dm rfl]at a ⊢;cases hl2:q.getLast? with
    |none=>rw[hl2]at a;exact absurd rfl a
    |some i=>
      rw[hl2]at a;dsimp only at a ⊢;have E:=rJ hl2;cases hk:ze G.p.wa td with
      |none=>rw[Dm hk]at a;exact absurd rfl a
      |some z=>
        rw[Dl (by first|(intro e;cases e;done)|(rw[hk];intro e;cases e))];have R:=U5 hk;have Q:s.arr.length=G.p.wa.length:=f.arr;obtain⟨y,C⟩:∃y,s.arr[z]?=some y:=⟨_,Dz O⟩
        rw[TB hk (show(zl s).arr[z]?=some y from C)];by_cases o:0<=i/\i<(y.length:Int)
        .rw[Dm o]
         exact DG f n l g E hk C (t Up) u o
        .rw[Dl o]
         exact G3 f n l g E hk C (t Up) u o
   rw[Dl J]at a ⊢;by_cases K:k=8
   .subst K
    rw[Dm rfl];cases r with
    |nil=>exact DH f n l g rfl
    |cons d r=>exact G4 f n l g rfl
   rw[Dl K]at a ⊢;by_cases L:k=9
   .subst L
    rw[Dm rfl];exact J7 f n l g u
   rw[Dl L]at a ⊢;by_cases H:k=10
   .subst H
    rw[Dm rfl];exact ZT f n l g
   .rw[Dl H]at a;exact absurd rfl a
theorem PU{G:Gm}{τ:Nat->Lb}{w:C3}{m:Vm}(g:MW G τ w m)(E:m.s.stat=0){K:Nat}(_:K<=900000000)(a:xP G.p K m≠.bad):
 Cy 70 #[(G.b,0)] w (DI G w (xP G.p K m)):=by
 obtain⟨s,v,cs⟩:=m;unfold xP at a ⊢;cases cs with
 |nil=>exact absurd rfl a
 |cons c r=>
   dsimp only at a E ⊢;by_cases l:Lm K s v c.vs c.o
   .rw[Dm l]at a ⊢
    have F:v.length<=1000000000:=by have:=l.v;omega
    have H:c.vs.length<=2000000000:=by have:=l.vs;omega
    have C:s.cost+1+s.fuel<=1000000000:=by have:=l.c;omega
    have B:c.o.length<=1000000000:=by have:=l.o;omega
    cases hx:c.code[c.pl]? with
    |none=>rw[hx]at a;exact absurd rfl a
    |some x=>
      rw[hx]at a;dsimp only at a ⊢;cases x with
      |beg=>exact PP g rfl E hx
      |app e=>
        obtain⟨k,op,n,td,tc⟩:=e;exact PN g rfl a (fun τ W u hW hpe=>KA hW hpe rfl F C a) hx
      |fin t=>
        obtain⟨k,_,td,tc,tg,th⟩:=t;exact PO g rfl a (fun τ W u hW hpe=>G6 hW hpe rfl F H C a) hx
      |jmp t=>exact PQ (c:=c) g rfl hx
      |unl t=>
        unfold yQ at a ⊢;dsimp only at a ⊢;cases d:v.getLast? with
        |none=>rw[d]at a;exact absurd rfl a
        |some n=>
          dsimp only;have i:=rJ d;have j:v.dropLast.length<=1000000000:=Jj
          generalize v.dropLast=q at *;by_cases f:n=0
          .subst f
           rw[Dm rfl];exact J8 g rfl i j hx
          .rw[Dl f]
           exact J9 g rfl i f j hx
      |lzy z t=>
        unfold yQ at a ⊢;dsimp only at a ⊢;cases d:v.getLast? with
        |none=>rw[d]at a;exact absurd rfl a
        |some n=>
          dsimp only;have i:=rJ d;have j:v.dropLast.length<=1000000000:=Jj
          generalize v.dropLast=q at *;by_cases f:n=0
          .cases z
           .rw[Dl Ke]
            exact lI g rfl i f j hx
           .rw[Dm Ke,i]
            exact i5 (i▸g) rfl rfl f j hx
          .cases z
           .rw[Dm Ke,i]
            exact hK (i▸g) rfl rfl f j hx
           .rw[Dl Ke]
            exact m0 g rfl i f j hx
      |ent=>exact PS g rfl B hx
      |lve=>
        unfold yQ at a ⊢;dsimp only at a ⊢;cases d:c.o.getLast? with
        |none=>rw[d]at a;exact absurd rfl a
        |some n=>
          dsimp only
          obtain⟨q,D⟩:∃q,c.o=q++[n]:=by
           rcases List.eq_nil_or_concat c.o with A|⟨q,_,A⟩
           .rw[A]at d;cases d
           .rw[List.concat_eq_append]at A
            rw[A,jS]at d;injection d with d;exact⟨q,by rw[A,d]⟩
          rw[show c.o.dropLast=q by rw[D,jA]];exact PT g rfl D B hx
   .rw[Dl l]at a;exact absurd rfl a
theorem PV{p:Pr}{vs:d2}{k op n:Int}{td:C2}{l:List Int}{s t:RS}{x:Int}(h:qX p (fun _ _ s=>.fin s) vs k op n td l s=.ok x t):t.stat=s.stat:=by
 unfold qX at h;split at h
 .injection h with _ h;rw[<-h]
 split at h
 .injection h with _ h;rw[<-h]
 split at h
 .injection h with _ h;rw[<-h];rfl
 split at h
 .split at h
  .injection h with _ h;rw[<-h];rfl
  .cases h
 split at h
 .have:=r3 p td (l.getD 0 0) (zl s)
  rw[h]at this;exact this.2.2.2
 split at h
 .split at h<;>cases h
 .have:=o2 (zl s)
  rw[h]at this;exact this.2.2.2
theorem KB{p:Pr}{x:d5}{s:RS}{v:List Int}{c:Fr}{r:List Fr}{m':Vm}(a:yQ p x s v c r=.go m'):m'.s.stat=s.stat:=by
 cases x with
 |beg=>
   unfold yQ at a;dsimp only at a;cases hs:jJ s with
   |fin t=>rw[hs]at a;cases a
   |ok _ t=>rw[hs]at a;injection a with a;rw[<-a];exact(vT hs).idl.2
 |app e=>
   obtain⟨k,op,n,td,tc⟩:=e;have a:pF p k op n td tc.length s v c r=.go m':=a;unfold pF at a;split at a
   .cases a
   split at a
   .split at a
    .split at a
     .injection a with a;rw[<-a];rfl
     .cases a
    .cases a
   split at a
   .cases a
   cases hn:qX p (fun _ _ s=>.fin s) c.vs k op n td (v.drop (v.length-tc.length)) s with
   |ok x t=>rw[hn]at a;injection a with a;rw[<-a];exact PV hn
   |fin t=>rw[hn]at a;cases a
 |fin t=>
   obtain⟨k,_,td,tc,tg,th⟩:=t;have a:j3 p k td s v c r=.go m':=a;unfold j3 at a;cases hl:v.getLast? with
   |none=>rw[hl]at a;cases a
   |some x=>
     rw[hl]at a;dsimp only at a;split at a
     .cases a
     split at a
     .injection a with a;rw[<-a]
     split at a
     .split at a
      .cases a
      .injection a with a;rw[<-a]
     split at a
     .cases hl2:v.dropLast.getLast? with
      |none=>rw[hl2]at a;cases a
      |some i=>
        rw[hl2]at a;dsimp only at a;split at a
        .cases a
        .have b:=r4 p td i x (zl s)
         cases hp:vD p td i x (zl s)with
         |fin t=>rw[hp]at a;cases a
         |ok _ t=>rw[hp]at a b;injection a with a;rw[<-a];exact b.2.2.2
     split at a
     .unfold YW at a
      cases r with
      |nil=>cases a
      |cons d q=>injection a with a;rw[<-a]
     split at a
     .injection a with a;rw[<-a];rfl
     split at a
     .injection a with a;rw[<-a]
     .cases a
 |jmp t=>injection a with a;rw[<-a]
 |unl t=>
   exact Qk
 |lzy z t=>
   unfold yQ at a;dsimp only at a;split at a
   .cases a
   .split at a
    .injection a with a;rw[<-a]
    .injection a with a;rw[<-a]
 |ent=>injection a with a;rw[<-a]
 |lve=>
   exact Qk
theorem G7{p:Pr}{K:Nat}{m m':Vm}(h:xP p K m=.go m'):m'.s.stat=m.s.stat:=by
 unfold xP at h;cases hc:m.cs with
 |nil=>rw[hc]at h;cases h
 |cons c r=>
   rw[hc]at h;dsimp only at h;split at h
   .split at h
    .cases h
    .exact KB h
   .cases h
theorem BK{P:Nat->Prop}(e:∃j,P j):P (Classical.epsilon fun j=>P j/\∀i,P i->j<=i)/\∀i,P i->(Classical.epsilon fun j=>P j/\∀i,P i->j<=i)<=i:=by
 have k:∀n,(∃j,j<=n/\P j)->∃j,P j/\∀i,P i->j<=i:=by
  intro n
  induction n with
  |zero=>
    rintro⟨j,a,b⟩;have:j=0:=O
    subst this;exact⟨0,b,fun i _=>Dw _⟩
  |succ n g=>
    rintro⟨j,a,b⟩;by_cases d:∃j,j<=n/\P j
    .exact g d
    .refine⟨j,b,fun i f=>?_⟩
     rcases Cc i j with c|c
     .exact absurd ⟨i,O,f⟩ d
     .exact c
 obtain⟨j,a⟩:=e;exact Classical.epsilon_spec (p:=fun j=>P j/\∀i,P i->j<=i) (k j ⟨j,Dy _,a⟩)
theorem U6(v:C4)(a:TypeId)(w:C3):(Instr.typeAssert (.iface 68 v) a 68 true).run Tryz.prog w=.ok (.tuple #[v,.bool true]) w:=by
 simp[Instr.typeAssert,run_underlying underlying68]
abbrev ks:Obj:=.cells #[(0:Int),(0:Int)] 68
theorem zbv(p:Nat)(a b:Int)(f:List PanicEntry)(w:C3)(d:w.heap[p]?=some ks):
 CallsD Tryz.prog 68 #[(p,0)] (.panicking ({ v:=.iface 68 (.agg #[(a:Int),(b:Int)]),recovered:=false } :: f)) w fun e m w'=>
  e=.returned (.tuple #[])/\m=.panicking ({ v:=.iface 68 (.agg #[(a:Int),(b:Int)]),recovered:=true } :: f)/\w'.heap[p]?=some (.cells #[(a:Int),(b:Int)] 68 (0,0))/\d1 (fun k=>k=p) w w':=by
 obtain⟨⟨_,_⟩,_⟩:=zD d;have g:=zB d;have n:=U6 (.agg #[(a:Int),(b:Int)]);refine callsD_of_wpS func68 rfl fun _ cs i=>?_
 apply wpS_seq;apply wpS_region;simp[wpOpsS,go_sem,recoverD,i,ntmps68,Exit.thenS];refine wpS_of_wp ?_;change Code.wp _ _ _ ⟨#[.pointer (some ⟨p,0,none⟩),.iface 68 (.agg #[(a:Int),(b:Int)]),undef,undef,.iface 68 (.agg #[(a:Int),(b:Int)]),undef,undef,undef,undef,undef,undef,undef,undef,undef],[]⟩ _;go_wp2
 have j:((((w.setCell (p,0) (a:Int)).setCell (p,1) (b:Int)).alloc (.cells #[(a:Int),(b:Int)] 68)).heap[p]?=some (.cells #[(a:Int),(b:Int)] 68 (0,0))):=
  (D3 _ _ p (by simp[World.setCell];exact g)).trans (D0 (D0 d _) _)
 have l:d1 (fun k=>k=p) w (((w.setCell (p,0) (a:Int)).setCell (p,1) (b:Int)).alloc (.cells #[(a:Int),(b:Int)] 68)):=
  ((d1.set (X:=fun k=>k=p) w rfl 0 _).trans (d1.set (X:=fun k=>k=p) _ rfl 1 _) fun _ _ c=>c).trans (d1.alloc (fun k=>k=p) _ _) fun _ _ c=>c
 exact⟨rfl,_,rfl,.tuple #[],by simp[results,results68,go_sem],rfl,rfl,j,l⟩
def zc8(G:Gm)(w:C3)(t:RS):Prop:=∃d e c a,w.heap[G.b]?=some (YY G d e c a t)/\w.ownsRow G.B 3 1 a t.o.length (t.o.map (Value.int .i64))/\t.o.length<=t.cost/\t.cost+t.fuel<=1000000000
def enV(c:Option Int)(t:RS):C4:=match c with
 |some n=>.agg #[.int .i64 1,.int .i64 n]
 |none=>.agg #[.int .i64 t.stat,.int .i64 0]
def PW(G:Gm)(K:Nat)(c:Option Int)(t:RS)(w wr:C3)(j:Nat):Prop:=∃τ mj,MW G τ wr mj/\mj.s.stat=0/\LP G.p K j mj=.stop c t/\Below G.B w wr
def Gm.we(G:Gm)(e:Nat)(o:Obj):Gm:={ G with kp:=fun k x=>k=e/\x=o }
theorem eS.we{G:Gm}{τ:Nat->Lb}{w:C3}{m:Vm}{d g c f:C4}(a:eS G τ w m d g c f){e:Nat}{o:Obj}(l:τ e=.gl)(i:w.heap[e]?=some o):eS (G.we e o) τ w m d g c f:=
 ⟨a.hB,a.old,a.tab,a.pok,a.box,a.lab,a.inp,a.val,a.o,a.frs,a.wz,(by obtain⟨n,b⟩:=a.arr;exact⟨n,⟨b.lab,b.len,b.rl,b.map,b.row⟩⟩),a.nv,a.ni,a.no,a.lim,fun k x j=>by
   obtain⟨rfl,rfl⟩:=j
   exact⟨l,i⟩⟩
theorem PY{G:Gm}{e:Nat}{τ:Nat->Lb}{g i:C3}{t:RS}{v:List Int}{cs:List Fr}(a:MW (G.we e ks) τ g ⟨t,v,cs⟩)(f:d1 (fun k=>k=e) g i):zc8 G i t:=by
 obtain⟨m,p,l,n,a⟩:=a;have c:=(a.kp e ks ⟨rfl,rfl⟩).1;have j:G.b≠e:=fun x=>by have:=a.lab;rw[show(G.we e ks).b=G.b from rfl,x,c]at this;cases this
 refine⟨m,p,l,n,(f.block _ a.lt j).trans a.box,zZ a.o.1 fun k d=>f.block k (zo a.o.1 k d).1 fun(x:k=e)=>?_,a.no,a.lim⟩;have:=a.o.2 k d;rw[x,c]at this;cases this
theorem U7{G:Gm}{τ:Nat->Lb}{w:C3}{F:RS}(aF:MW G τ w ⟨F,[],[]⟩)(ai:F.stat=0){r:Fu}(ab:jN G.p ⟨#[109,97,105,110]⟩=some r)(aa:r.params.length=0){K:Nat}(aC:K<=900000000){c:Option Int}{t:RS}(ag:To G.p K ⟨F,[],[⟨eW r,0,d7 r [],[]⟩]⟩ (.stop c t)):
 Cy 33 #[(G.b,0)] w fun e w'=>e=.returned (enV c t)/\zc8 G w' t/\Below G.B w w':=by
 have aL:∀(W:Fn) (first V:Array C4) (w:C3),(Instr.makeFunc W first V).run Tryz.prog w=.ok (.func W first V) w:=fun _ _ _ _=>rfl
 obtain⟨_,_,_,_,J⟩:=aF;have aB:=J.hB;have M:Cx w (w.alloc ks):=Zb.alloc Zr _;have L:=(J.relab M (e3.lbl τ w .gl Zr)).we (fS τ w.heap.size .gl) (Dq w ks);have ap:=C0 (MW (G.we w.heap.size ks) (TH τ w.heap.size .gl) (w.alloc ks) ⟨F,[],[]⟩) ⟨_,_,_,_,L⟩;have al:=U (M.mono aB);have aM:(w.alloc ks).heap.size=w.heap.size+1:=zA _ _;have an:=C0 (jN (G.we w.heap.size ks).p ⟨#[109,97,105,110]⟩=some r) ab;have ar:=U ag;have am:=U aa;have au:=U ai;clear J L M ab ag aa ai
 go_enter_defers func33,ntmps33
 go_wp2_with (first
  | (go_at_call 69;(refine(BB (G:=G.we w.heap.size ks) ap.o (q:=[]) (l:=[]) rfl (Dw _) an.o am.o.symm Up).mono ?_);rintro e _ ⟨rfl,⟨τ2,ae⟩,Y⟩
     have aq:=U ae;have ak:=U (al.o.trans Y)
     clear ae Y))
 go_loopw [6] (fun _ wr=>∃j,PW (G.we w.heap.size ks) K c t w wr j) (fun _ wr=>Classical.epsilon fun j=>PW (G.we w.heap.size ks) K c t w wr j/\∀i,PW (G.we w.heap.size ks) K c t w wr i->j<=i)
 case atStart=>
  obtain⟨k,ad⟩:=ar.o;exact⟨k,τ2,_,aq.o,au.o,ad,ak.o⟩
 case round=>
  obtain⟨X,aG⟩:=BK hrel;obtain⟨Q,N⟩:∃Q,(Classical.epsilon fun j=>PW (G.we w.heap.size ks) K c t w wr j/\∀i,PW (G.we w.heap.size ks) K c t w wr i->j<=i)=Q:=⟨_,rfl⟩
  rw[N]at X;have ao:=U N;clear aG hrel N;obtain⟨τj,v,P,D,d,Z⟩:=X;have S:=U Z;clear Z;cases Q with
  |zero=>cases d
  |succ g=>
    rw[LP]at d
    have C:xP (G.we w.heap.size ks).p K v≠.bad:=fun e=>by
     have d:(match xP (G.we w.heap.size ks).p K v with | .go m'=>LP G.p K g m'|x=>x)=.stop c t:=d;rw[e]at d;cases d
    have m:=PU P D aC C;cases hx:xP (G.we w.heap.size ks).p K v with
    |bad=>exact absurd hx C
    |go E=>
      have d:(match xP (G.we w.heap.size ks).p K v with | .go m'=>LP G.p K g m'|x=>x)=.stop c t:=d;rw[hx]at m d;have ah:E.s.stat=0:=(G7 hx).trans D;have H:=U (show Cy 70 #[(G.b,0)] wr (gI (G.we w.heap.size ks) wr E (.tuple #[])) from m);have T:=U (Do ah (show LP G.p K g E=.stop c t from d));clear m P D d C hx ah
      go_wp2_with (first
       | (go_at_call 70;(refine H.o.mono ?_);rintro e y ⟨rfl,⟨τ4,u⟩,A⟩
          have I:=C0 (PW (G.we w.heap.size ks) K c t w y g) ⟨τ4,E,u,T.o.1,T.o.2,S.o.trans A⟩
          clear u A))
      go_roundw
      case rel=>exact⟨g,I.o⟩
      case measure=>
       have L:=(BK ⟨g,I.o⟩).2 g I.o;have aK:=ao.o;omega
    |stop z R=>
      have d:(match xP (G.we w.heap.size ks).p K v with | .go m'=>LP G.p K g m'|x=>x)=.stop c t:=d;rw[hx]at m d;injection d with ax ay;subst ax ay;have H:=U (show Cy 70 #[(G.b,0)] wr (yu (G.we w.heap.size ks) wr z R) from m);clear m P D C hx;go_wp2_with fail;refine H.o.mono ?_;rintro e y ⟨rfl,⟨τ4,_,_,u⟩,A⟩;have aj:y.heap[w.heap.size]?=some ks:=by obtain⟨_,_,_,_,aA⟩:=u;exact(aA.kp _ _ ⟨rfl,rfl⟩).2
      obtain⟨av,aw,aD,aI⟩:∃a b,zas z R=zbj a b/\enV z R=.agg #[(a:Int),(b:Int)]:=by
       cases z with
       |none=>exact⟨_,_,rfl,rfl⟩
       |some n=>exact⟨_,_,rfl,rfl⟩
      rw[aD];refine leaves_cons (f:=68) (args:=#[.pointer (some ⟨w.heap.size,0,none⟩)]) Ur (by simp[go_sem]) ?_;refine(zbv w.heap.size av aw [] y aj).mono ?_;rintro e _ aJ ⟨rfl,rfl,aH,af⟩;obtain⟨⟨az,f1⟩,_⟩:=zD aH;simp[Leaves,settle,results,results33,go_sem,az,f1,aI];have aE:Below G.B y aJ:=af.below (by have:=zB aj;omega) fun k ad (e:k=w.heap.size)=>O
      exact⟨PY u af,(S.o.trans A).trans aE⟩
end Go.Proofs.YthcmenajdcbnnaaGreatDoor
namespace Go.Proofs.YthcmenajdcbnnaaGreatDoor
open Go.RowKit Tryz
theorem oO{p:Pr}:∀{l:List Fu}{i:Nat},(yo p l i).1=0->∀f∈l,(xt p f).1=0
 |[],_,_,f,a=>Xb
 | x::r,i,h,f,a=>by
   rw[yo]at h;by_cases b:(xt p x).1=0
   .rw[Dl Uz]at h
    rcases List.mem_cons.1 a with rfl|a
    .exact b
    .exact oO h f a
   .rw[Dm b]at h;exact absurd h b
theorem m4{p:Pr}(a:(xy p).1=0):eK p=true/\wR p/\∃f,jN p ⟨#[109,97,105,110]⟩=some f/\f.params=[]:=by
 unfold xy at a;by_cases i:eK p=false
 .rw[Dm i]at a;exact absurd a (by show(1 :Int)≠0;decide)
 rw[Dl i]at a;have g:eK p=true:=by simpa using i
 by_cases e:(yK p p.wa || yV p.funcs || !kd p)=true
 .rw[Dm e]at a;exact absurd a Vd
 rw[Dl e]at a;refine⟨g,fun f d=>⟨?_,?_⟩,?_⟩
 .have b:=oO a f d
  unfold xt at b;by_cases k:fJ f.params=true
  .rw[Dm k]at b;exact absurd b Vd
  rw[Dl k]at b;by_cases j:(zW p f.type f.body f.params f.params.length false 0).1=0
  .exact j
  .rw[Dm j]at b;exact absurd b j
 .unfold eK at g
  rw[Dv]at g;have:=List.all_eq_true.1 g.2 f d;unfold xr at this;simp only[Dv]at this;exact this.2
 .have c:kd p=true:=by
   simp only[Bool.or_eq_true,not_or,Bool.not_eq_true',Bool.not_eq_false]at e;simpa using e.2
  unfold kd at c;cases d:jN p ⟨#[109,97,105,110]⟩with
  |none=>rw[d]at c;cases c
  |some f=>
    rw[d]at c;simp only[Dv,decide_eq_true_eq]at c;exact⟨f,rfl,List.length_eq_zero_iff.1 c.2⟩
def vH(p:Pr)(b:List Int)(F:Nat):RS:=⟨p.wa.map fun a=>List.replicate a.size.toNat 0,b,[],0,F,0,false⟩
def KC:eD uK->Int×Int×List Int×Nat×Nat
 |.ok h s=>(1,h.2.1,s.o,s.cost,s.fuel)
 |.fin s=>(s.stat,0,s.o,s.cost,s.fuel)
theorem PZ{p:Pr}(b:(xy p).1≠0)(c:List Int)(a:Int):vE p c a=(0,0,[],0,0):=by unfold vE;rw[Dm b]
theorem lJ{p:Pr}(d:(xy p).1=0){f:Fu}(e:jN p ⟨#[109,97,105,110]⟩=some f)(c:List Int)(b:Int):vE p c b=KC (j9 (kM p b.toNat) [] f.body (vH p c b.toNat)):=by
 unfold vE;rw[Dl Xi,e];show(match j9 (kM p b.toNat) [] f.body (vH p c b.toNat)with | .ok d s=>_ | .fin s=>_)=_;cases j9 (kM p b.toNat) [] f.body (vH p c b.toNat)with
 |ok a t=>rfl
 |fin t=>rfl
theorem ZU(p:Pr)(a:List Int)(F:Nat):g1 p (vH p a F):=⟨by show(p.wa.map _).length=_;rw[Yd],rfl,rfl⟩
theorem ZV{p:Pr}(j:(xy p).1=0)(n:(xy (qJ p)).1=0)(e:List Int)(b:Int):vE (qJ p) e b=vE p e b:=by
 obtain⟨_,k,f,i,l⟩:=m4 j;have m:jN (qJ p) ⟨#[109,97,105,110]⟩=some (kq f):=by rw[gU,i];rfl
 rw[lJ j i,lJ n m];obtain⟨s,u⟩:=k f (uv i);have d:=IX (E8 p k b.toNat).2 f.type f.body f.params (eL f.params 0) f.params.length [] [] _ _ _ (vH p e b.toNat) 100 (by rw[l];trivial) (k5 f.params) u s;show KC (j9 (kM (qJ p) b.toNat) [] (zO f.body (eL f.params 0) f.params.length).1 (vH p e b.toNat))=_;cases hx:j9 (kM p b.toNat) [] f.body (vH p e b.toNat)with
 |fin t=>
   rw[hx]at d;cases hy:j9 (kM (qJ p) b.toNat) [] (zO f.body (eL f.params 0) f.params.length).1 (vH p e b.toNat)with
   |fin g=>rw[hy]at d;rw[show g=t from d]
   |ok a g=>rw[hy]at d;exact d.elim
 |ok a t=>
   rw[hx]at d;cases hy:j9 (kM (qJ p) b.toNat) [] (zO f.body (eL f.params 0) f.params.length).1 (vH p e b.toNat)with
   |fin g=>rw[hy]at d;exact d.elim
   |ok c g=>
     rw[hy]at d;obtain⟨_,q,r,_⟩:=d;show(1,c.2.1,g.o,g.cost,g.fuel)=(1,a.2.1,t.o,t.cost,t.fuel)
     rw[q,r]
abbrev L8(a b:Int)(v:C4)(d e:Int):Obj:=.cells #[(a:Int),(b:Int),v,(d:Int),(e:Int)] 35
theorem G8{W:C3}{g:Nat}{f i j k l:C4}{T:TypeId}(m:W.heap[g]?=some (.cells #[f,i,j,k,l] T (0,0)))(a b c d e:C4):
 (((((W.setCell (g,0) a).setCell (g,1) b).setCell (g,2) c).setCell (g,3) d).setCell (g,4) e).heap[g]?=some (.cells #[a,b,c,d,e] T (0,0)):=
 D0 (D0 (D0 (D0 (D0 m a) b) c) d) e
theorem KD(W:C3){g k:Nat}(a:k≠g)(b c d e f:C4):(((((W.setCell (g,0) b).setCell (g,1) c).setCell (g,2) d).setCell (g,3) e).setCell (g,4) f).heap[k]?=W.heap[k]?:=
 (Dx _ ⟨g,4,none⟩ _ k a).trans ((Dx _ ⟨g,3,none⟩ _ k a).trans ((Dx _ ⟨g,2,none⟩ _ k a).trans ((Dx _ ⟨g,1,none⟩ _ k a).trans (Dx _ ⟨g,0,none⟩ _ k a))))
theorem t5{W w:C3}{g B:Nat}(i:Below B w W)(a:B<=g)(b c d e f:C4):Below B w (((((W.setCell (g,0) b).setCell (g,1) c).setCell (g,2) d).setCell (g,3) e).setCell (g,4) f):=
 ((((i.setCell (p:=(g,0)) a _).setCell (p:=(g,1)) a _).setCell (p:=(g,2)) a _).setCell (p:=(g,3)) a _).setCell (p:=(g,4)) a _
theorem KE(n:Nat):madeCells (Value.int .i64 0).cells (n*1)=((List.replicate n (0 :Int)).map (Value.int .i64)).toArray:=by
 unfold madeCells;rw[Nat.mul_one];apply Array.ext
 .simp
 .intro i _ _
  simp[Value.cells,Nat.mod_one]
theorem P0(n:Nat)(_:n<=1000)(w:C3):(Instr.makeSlice 23 (.int .i64 (n:Int)) (.int .i64 (n:Int))).run Tryz.prog w=.ok (.slice (some ⟨w.heap.size,0,none⟩) n n) (w.alloc (FP (List.replicate n 0))):=by
 obtain⟨e,a,b,c,d⟩:=info_parts xK;have:=run_make (P:=Tryz.prog) w 23 3 e _ underlying23 a b .i64 .i64 (n:Int) (n:Int) O (Int.le_refl _) (by rw[d];omega) O;rw[this,c,Int.toNat_natCast,KE]
end Go.Proofs.YthcmenajdcbnnaaGreatDoor
namespace Go.Proofs.YthcmenajdcbnnaaGreatDoor
open Go.RowKit Tryz Go.Maps
abbrev zF:C4:=.agg #[(),()]
abbrev m0O(H:Nat)(a:C4)(F:Int):Obj:=.cells #[.map (some (H+1)),.map (some (H+1+1)),a,(),.pointer none,(0:Int),(0:Int),(),(0:Int),(F:Int)] 74
structure G9 (p:Pr):Prop where
 nm:∀(i j:Nat) (f g:Fu),i<j->p.funcs[i]?=some f->p.funcs[j]?=some g->f.name≠g.name
 sz:∀f∈p.funcs,f.name.size<=maxLen
 bd:∀f∈p.funcs,d3 f.body 100=true/\d0 f.body 0<=1000000000
 an:∀(i j:Nat) (f g:Ar),i<j->p.wa[i]?=some f->p.wa[j]?=some g->f.name≠g.name
 az:∀a∈p.wa,a.name.size<=maxLen/\0<=a.size/\a.size<=1000
structure U8 (H:Nat) (p:Pr) (vi:C4) (pgo:Obj) (w:C3) (j:Nat) (fv:C2->C4) (wr:C3):Prop where
 bel:Below H w wr
 sz:H+4<=wr.heap.size
 pb:wr.heap[H]?=some pgo
 mb:wr.heap[H+1+1+1]?=some (m0O H vi 0)
 fm:eI wr (H+1) j zF fv
 am:eI wr (H+1+1) 0 (.slice none 0 0) fun _=>.slice none 0 0
 fs:∀(i:Nat) (f:Fu),i<j->p.funcs[i]?=some f->∃vp vc,fv f.name=.agg #[vp,vc]/\e5 H wr vp f.params/\hJ H (H+4) wr vc (eW f)
theorem U8.below{H:Nat}{p:Pr}{e:C4}{d:Obj}{w:C3}{j:Nat}{c:C2->C4}{wr w':C3}(b:U8 H p e d w j c wr)(a:Cx wr w'):U8 H p e d w j c w':=by
 have n:=b.sz;refine⟨b.bel.trans (a.mono O),Dr n a.size,(a.block _ O).trans b.pb,(a.block _ O).trans b.mb,b.fm.wd (a.block _ O),b.am.wd (a.block _ O),fun i f l g=>?_⟩;obtain⟨t,s,o,q,r⟩:=b.fs i f l g;exact⟨t,s,o,q.below (a.mono O) Zr,r.keep (a.mono O) a.size fun k _ m=>a.block k m⟩
theorem U8.next{H:Nat}{p:Pr}{u:C4}{t:Obj}{w:C3}{j:Nat}{q:C2->C4}{wr w':C3}(B:G9 p)(b:U8 H p u t w j q wr){f:Fu}(s:p.funcs[j]?=some f){o n:C4}(v:e5 H wr o f.params)(x:hJ H (H+4) wr n (eW f))(z:eI w' (H+1) (j+1) zF (OM q f.name (.agg #[o,n])))(a:wr.grownBy w' (some (H+1))):
 U8 H p u t w (j+1) (OM q f.name (.agg #[o,n])) w':=by
 have C:=b.sz;have c:∀k,k<wr.heap.size->k≠H+1->w'.heap[k]?=wr.heap[k]?:=fun k m A=>a.block k m fun e=>by injection e with e;exact A e
 have l:Below H wr w':=⟨a.os,a.tape,a.output,a.size,fun k m=>c k O O⟩
 refine⟨b.bel.trans l,Dr C a.size,(c _ O O).trans b.pb,(c _ O O).trans b.mb,z,b.am.wd (c _ O O),fun i g _ d=>?_⟩;by_cases y:i=j
 .subst y
  rw[s]at d;injection d with d;subst d;exact⟨o,n,Dm rfl,v.below l Zr,x.keep l a.size fun k m r=>c k r O⟩
 .obtain⟨I,G,D,E,F⟩:=b.fs i g O d
  exact⟨I,G,(Dl (B.nm i j g f O d s)).trans D,E.below l Zr,F.keep l a.size fun k m r=>c k r O⟩
def ZW(l:List Ar)(b:List Nat)(s:C2):C4:=match ze l s with
 |some k=>arV (b.getD k 0,List.replicate ((l[k]?.map fun a=>a.size.toNat).getD 0) 0)
 |none=>.slice none 0 0
structure XK (H:Nat) (p:Pr) (wM:C3) (j:Nat) (rows:List Nat) (wr:C3):Prop where
 off:d1 (fun k=>k=H+1+1) wM wr
 am:eI wr (H+1+1) j (.slice none 0 0) (ZW (p.wa.take j) rows)
 rl:rows.length=j
 ord:rows.Pairwise (· < ·)
 row:∀(k g:Nat) (a:Ar),rows[k]?=some g->p.wa[k]?=some a->wM.heap.size<=g/\g<wr.heap.size/\wr.heap[g]?=some (FP (List.replicate a.size.toNat 0))
theorem XK.below{H:Nat}{p:Pr}{f:C3}{j:Nat}{e:List Nat}{wr w':C3}(b:XK H p f j e wr)(c:Cx wr w'):XK H p f j e w':=by
 refine⟨b.off.trans (d1.wb (fun _=>False) c) fun _ _ m=>m.elim,b.am.wd (c.block _ b.am.lt),b.rl,b.ord,fun k g a l i=>?_⟩;obtain⟨n,d,o⟩:=b.row k g a l i;exact⟨n,D6 d c.size,(c.block g d).trans o⟩
theorem U9{a b:List Ar}{s:C2}:ze (a++b) s=match ze a s with|some k=>some k|none=>(ze b s).map (·+a.length):=by
 induction a with
 |nil=>
   rw[Yy];cases ze b s<;>rfl
 |cons x r d=>
   rw[Ys,ze,ze];by_cases c:x.name=s
   .rw[Dm c,Dm c]
   .rw[Dl c,Dl c,d]
    cases ze r s with
    |some k=>rfl
    |none=>
      cases ze b s with
      |none=>rfl
      |some k=>
        show some (k+r.length+1)=some (k+(r.length+1));rfl
theorem p9(w:C3)(o:Obj){i:Nat}(h:i<w.heap.size):(w.alloc o).heap[i]?=w.heap[i]?:=D3 w o i h
theorem XK.next{H:Nat}{p:Pr}{v:C3}{j:Nat}{m:List Nat}{wr w':C3}(I:G9 p)(d:XK H p v j m wr)(_:H+4<=v.heap.size){a:Ar}(o:p.wa[j]?=some a)(D:eI w' (H+1+1) (j+1) (.slice none 0 0) (OM (ZW (p.wa.take j) m) a.name (.slice (some ⟨wr.heap.size,0,none⟩) a.size.toNat a.size.toNat)))(u:(wr.alloc (FP (List.replicate a.size.toNat 0))).grownBy w' (some (H+1+1))):
 XK H p v (j+1) (m++[wr.heap.size]) w':=by
 have S:=zA wr (FP (List.replicate a.size.toNat 0));have K:=d.off.size;have w:∀k,k<wr.heap.size+1->k≠H+1+1->w'.heap[k]?=(wr.alloc (FP (List.replicate a.size.toNat 0))).heap[k]?:=fun k c F=>u.block k O fun e=>by injection e with e;exact F e
 have L:p.wa.take (j+1)=p.wa.take j++[a]:=by rw[Yr,o];rfl
 have A:(p.wa.take j).length=j:=by
  have:=(List.getElem?_eq_some_iff.1 o).1;rw[Yc];omega
 refine⟨(d.off.trans (d1.alloc (fun k=>k=H+1+1) wr _) fun _ _ t=>t).trans (d1.grown (X:=fun k=>k=H+1+1) u fun k c=>by injection c with c;exact c.symm) fun _ _ t=>t,D.congr fun s=>?_,by rw[Dn,d.rl];rfl,?_,fun k g b c l=>?_⟩
 .unfold OM ZW
  rw[L,U9];by_cases r:s=a.name
  .rw[Dm r]
   have G:ze (p.wa.take j) s=none:=nR fun i f q=>by
    have z:i<j:=by have:=(List.getElem?_eq_some_iff.1 q).1;omega
    rw[r];exact I.an i j f a z (by rw[List.getElem?_take_of_lt z]at q;exact q) o
   rw[G];simp only[ze,Dm r.symm,Option.map_some,Yo,A];rw[Yi O,A,Yx]
   have J:(m++[wr.heap.size])[j]?=some wr.heap.size:=by
    rw[Yi (by rw[d.rl];exact Dy _),d.rl,Yx];rfl
   simp[arV,J]
  .rw[Dl r]
   have E:ze [a] s=none:=by rw[ze,Dl (fun e:a.name=s=>r e.symm)];rfl
   cases hi:ze (p.wa.take j) s with
   |none=>rw[E];rfl
   |some k=>
     obtain⟨f,q,_⟩:=C6 hi;have c:=(List.getElem?_eq_some_iff.1 q).1;dsimp only;rw[Yn c];rw[show(m++[wr.heap.size]).getD k 0=m.getD k 0 by rw[Yk,Yn (by rw[d.rl];omega),Yk]]
 .rw[List.pairwise_append]
  refine⟨d.ord,List.pairwise_singleton _ _,fun x t _ M=>?_⟩;rw[List.mem_singleton.1 M];obtain⟨k,c⟩:=List.mem_iff_getElem?.1 t;have n:=(List.getElem?_eq_some_iff.1 c).1;have:=(List.getElem?_eq_some_iff.1 o).1;obtain⟨b,l⟩:∃b,p.wa[k]?=some b:=⟨_,Dz (by rw[d.rl]at n;omega)⟩
  exact(d.row k x b c l).2.1
 .rcases Cc k m.length with n|n
  .rw[Yn n]at c
   obtain⟨N,P,Q⟩:=d.row k g b c l;have B:=u.size;exact⟨N,O,(w g O O).trans ((p9 wr _ P).trans Q)⟩
  .rw[Yi n,d.rl]at c
   have R:k-j=0:=by
    have:=(List.getElem?_eq_some_iff.1 c).1;simp at this;exact this
   have C:k=j:=by rw[d.rl]at n;omega
   subst C;rw[Yx]at c;simp at c;subst c;rw[o]at l;injection l with l;subst l;have B:=u.size;exact⟨K,O,(w _ O O).trans (Dq wr _)⟩
theorem VA(p:Pr)(aq ar au:C4)(y:List Int)(F:Nat)(w:C3)(ad:eZ w.heap.size w aq p.wa)(ae:e0 w.heap.size w ar p.funcs)(ah:lQ w.heap.size w au y)(aO:G9 p):
 Cy 32 #[.agg #[aq,ar],au,((F:Int):Int)] w fun e w'=>e=.returned (.pointer (some ⟨w.heap.size+1+1+1,0,none⟩))/\∃(K:C2->C4) (Y:List Nat) (r aS:C3),U8 w.heap.size p au (.cells #[aq,ar] 27) w p.funcs.length K r/\XK w.heap.size p r p.wa.length Y aS/\w'=aS.setCell (w.heap.size+1+1+1,9) ((F:Int):Int):=by
 obtain⟨d,m,rfl,_⟩:=ad.form;obtain⟨l,q,rfl,_⟩:=ae.form;obtain⟨⟨A,D,rfl,_⟩,_⟩:=ah;have bO:=@run_makeMap Tryz.prog;have aW:=U ad;have a0:=U ae;have B:=U aO;clear ad ae aO;go_enter func32,ntmps32;go_upto_region 2 with fail
 have V:U8 w.heap.size p (.slice A y.length D) (.cells #[(d,p.wa.length,m),(l,p.funcs.length,q)] 27) w 0 (fun _=>zF) ((((w.alloc (.cells #[(d,p.wa.length,m),(l,p.funcs.length,q)] 27)).alloc (.map #[] 0)).alloc (.map #[] 0)).alloc (m0O w.heap.size (.slice A y.length D) 0)):=by
  have aT:(w.alloc (.cells #[(d,p.wa.length,m),(l,p.funcs.length,q)] 27)).heap.size=w.heap.size+1:=zA _ _;have Z:=Dq w (.cells #[(d,p.wa.length,m),(l,p.funcs.length,q)] 27);have c:Cx w (w.alloc (.cells #[(d,p.wa.length,m),(l,p.funcs.length,q)] 27)):=Zb.alloc Zr _;generalize w.alloc (.cells #[(d,p.wa.length,m),(l,p.funcs.length,q)] 27)=W1 at *;have aU:(W1.alloc (.map #[] 0)).heap.size=w.heap.size+1+1:=by rw[zA,aT]
  have bx:eI (W1.alloc (.map #[] 0)) (w.heap.size+1) 0 zF fun _=>zF:=aT▸oC W1 zF
  have aa:=(D3 W1 (.map #[] 0) w.heap.size O).trans Z;have E:Cx w (W1.alloc (.map #[] 0)):=c.alloc O _;generalize W1.alloc (.map #[] 0)=W2 at *;have bL:(W2.alloc (.map #[] 0)).heap.size=w.heap.size+1+1+1:=by rw[zA,aU]
  have bA:eI (W2.alloc (.map #[] 0)) (w.heap.size+1+1) 0 (.slice none 0 0) fun _=>.slice none 0 0:=aU▸oC W2 (.slice none 0 0)
  have bz:=bx.wd (D3 W2 (.map #[] 0) (w.heap.size+1) O);have ab:=(D3 W2 (.map #[] 0) w.heap.size O).trans aa;have bj:Cx w (W2.alloc (.map #[] 0)):=E.alloc O _;generalize W2.alloc (.map #[] 0)=W3 at *;have bS:=zA W3 (m0O w.heap.size (.slice A y.length D) 0);exact⟨bj.alloc O _,O,(D3 W3 _ w.heap.size O).trans ab,bL▸Dq W3 _,bz.wd (D3 W3 _ _ O),bA.wd (D3 W3 _ _ O),fun i f ah=>O⟩
 generalize(((w.alloc (.cells #[(d,p.wa.length,m),(l,p.funcs.length,q)] 27)).alloc (.map #[] 0)).alloc (.map #[] 0)).alloc (.cells #[.map (some (w.heap.size+1)),.map (some (w.heap.size+1+1)),(A,y.length,D),(),.pointer none,(0:Int),(0:Int),(),(0:Int),(0:Int)] 74)=W0 at *;obtain⟨⟨_,_⟩,_⟩:=zD V.pb;have bP:w.heap.size<W0.heap.size:=zB V.pb;have a5:=U V;clear V;go_wp2_with fail
 go_loopw [20] (fun iv wr=>∃(j:Nat) (K:C2->C4),j<=p.funcs.length/\iv=.int .i64 (j:Int)/\U8 w.heap.size p (.slice A y.length D) (.cells #[(d,p.wa.length,m),(l,p.funcs.length,q)] 27) w j K wr) (fun iv _=>p.funcs.length-(intOf iv).toNat)
 case atStart=>exact⟨0,_,Dw _,rfl,a5.o⟩
 case round=>
  obtain⟨j,K,_,rfl,b⟩:=hrel;have aw:=U b;by_cases ai:j<p.funcs.length
  .obtain⟨f,R⟩:∃f,p.funcs[j]?=some f:=⟨_,Dz ai⟩
   have S:=Ye R;obtain⟨g,o,_,_,rfl,ag,ap,X,bC,bD,ak,af⟩:=(a0.o.below b.bel Zr).cells R;obtain⟨z,C,rfl,_⟩:=ak.form;obtain⟨I,J,rfl,_⟩:=af.form;have aQ:=b.sz;have bk:g<wr.heap.size:=O
   have c:Cx wr (wr.alloc (E6 f.name f.type (.slice z f.params.length C) (.slice I f.body.length J))):=Zb.alloc Zr _;have u:=Dq wr (E6 f.name f.type (.slice z f.params.length C) (.slice I f.body.length J));have an:(wr.alloc (E6 f.name f.type (.slice z f.params.length C) (.slice I f.body.length J))).heap.size=wr.heap.size+1:=zA _ _;have G:=b.below c;have al:=ak.below (c.mono O) (Dy w.heap.size);have aI:=af.below (c.mono O) (Dy w.heap.size);clear b ak af;go_upto_region 5 with fail;generalize wr.alloc (.cells #[f.name,(f.type:Int),(z,f.params.length,C),(I,f.body.length,J)] 93)=W at *;have H:=G.below (D1 W.heap.size W).drew;have v:W.drew.heap.size=W.heap.size:=rfl;obtain⟨⟨bF,bG,_,_⟩,bH⟩:=zM u;obtain⟨⟨ax,ay,az,aA,aB,aC,aD,aE,aF,aG⟩,aH⟩:=zJ G.mb;have bn:wr.heap.size<W.heap.size:=O
   have bo:w.heap.size+1+1+1<W.heap.size:=O
   have a2:=U H;have a7:=U u;have aZ:=U R;have a4:=U al;have aY:=U (UY w.heap.size f (.slice z f.params.length C) (.slice I f.body.length J) W.drew (by rw[v];omega) (al.below Zb.drew Zr) (aI.below Zb.drew Zr) (B.o.bd f S).1 (B.o.bd f S).2);have bu:=B.o.sz f S;clear c u G al aI H R S ap X bC bD
   go_region_law (first
    | (go_simp;go_at_call 67;(refine aY.o.mono ?_);rintro e _ ⟨_,rfl,E,aK⟩
       have N:=a2.o.below E;have aL:=aK.mono (show w.heap.size+4<=W.drew.heap.size by rw[v];omega);have aP:=a4.o.below (((D1 _ W).drew).trans (E.mono (show w.heap.size<=W.drew.heap.size by rw[v];omega))) (Dy w.heap.size);have ao:=(E.block wr.heap.size (by rw[v];omega)).trans a7.o;obtain⟨aV,bh,rfl,_⟩:=aK;obtain⟨aR,bw,M,L⟩:=N.fm.upd (t:=70) underlying70 Vw bu (.agg #[(z,f.params.length,C),.slice aV (eW f).length bh]);have a1:=U (N.next B.o aZ.o aP aL M L);obtain⟨⟨bI,bJ,_,_⟩,bK⟩:=zM ao;obtain⟨⟨a8,Z,aa,ab,a9,ba,bb,bc,be,bf⟩,bg⟩:=zJ N.mb;have bp:=zB ao;have bq:=zB N.mb
       clear N aL aP ao M L E))
   all_goals
    go_wp2_with fail;go_roundw
    case rel=>exact⟨j+1,_,O,by go_num,a1.o⟩
    case measure=>simp[intOf];omega
  .have bm:j=p.funcs.length:=by omega
   subst bm;obtain⟨⟨bI,bJ⟩,bK⟩:=zD b.pb;have aQ:=b.sz;have bQ:w.heap.size<wr.heap.size:=O
   obtain⟨r,P⟩:∃x,x=wr:=⟨_,rfl⟩
   have av:=U (show U8 w.heap.size p (.slice A y.length D) (.cells #[(d,p.wa.length,m),(l,p.funcs.length,q)] 27) w p.funcs.length K r by rw[P];exact b);have bv:w.heap.size+4<=r.heap.size:=by rw[P];exact aQ
   have aX:=U (show Cx w r by rw[P];exact b.bel);have a6:=C0 (XK w.heap.size p r 0 [] wr) ⟨by rw[P];exact d1.refl _ _,b.am.congr (fun s=>rfl),rfl,List.Pairwise.nil,fun k g a ag=>by simp at ag⟩;clear b P;go_wp2_with fail
   go_loopw [36] (fun iv wr=>∃(i:Nat) (Y:List Nat),i<=p.wa.length/\iv=.int .i64 (i:Int)/\XK w.heap.size p r i Y wr) (fun iv _=>p.wa.length-(intOf iv).toNat)
   case atStart=>exact⟨0,_,Dw _,rfl,a6.o⟩
   case round=>
    obtain⟨i,Y,ah,rfl,b⟩:=hrel;have aw:=U b;have bR:=b.off.size;have T:=b.off.at (by omega:¬(w.heap.size+1+1+1=w.heap.size+1+1)) av.o.mb;obtain⟨⟨ax,ay,az,aA,aB,aC,aD,aE,aF,aG⟩,aH⟩:=zJ T;have bo:w.heap.size+1+1+1<wr.heap.size:=O
    by_cases ai:i<p.wa.length
    .obtain⟨a,Q⟩:∃a,p.wa[i]?=some a:=⟨_,Dz ai⟩
     have aJ:Cx w wr:=aX.o.trans (b.off.below O fun k _ (e:k=w.heap.size+1+1)=>O);obtain⟨g,o,rfl,ag,ap,X⟩:=(aW.o.below aJ Zr).cells Q;obtain⟨bi,_,_⟩:=B.o.az a (Ye Q);obtain⟨n,bt⟩:∃n:Nat,a.size=(n:Int):=⟨a.size.toNat,O⟩
     have bs:n<=1000:=O
     have aM:a.size.toNat=n:=O
     rw[bt]at X;have bk:g<wr.heap.size:=O
     have c:Cx wr (wr.alloc (.cells #[a.name,((n:Int):Int)] 80)):=Zb.alloc Zr _;have u:=Dq wr (.cells #[a.name,((n:Int):Int)] 80);have G:=b.below c;have aj:=(c.block _ (zB T)).trans T;have an:(wr.alloc (.cells #[a.name,((n:Int):Int)] 80)).heap.size=wr.heap.size+1:=zA _ _;clear b aJ T;go_upto_region 10 with fail;generalize wr.alloc (.cells #[a.name,((n:Int):Int)] 80)=W at *;obtain⟨⟨bF,bG⟩,bH⟩:=zD u;obtain⟨⟨a8,Z,aa,ab,a9,ba,bb,bc,be,bf⟩,bg⟩:=zJ aj;have bn:wr.heap.size<W.heap.size:=O
     have bp:w.heap.size+1+1+1<W.heap.size:=O
     have H:=G.below (D1 W.heap.size W).drew;have v:W.drew.heap.size=W.heap.size:=rfl;obtain⟨aR,bw,M,L⟩:=(H.am.wd (w':=(W.alloc (FP (List.replicate n 0))).drew) (D3 W _ _ O)).upd (t:=71) underlying71 Vw bi (.slice (some ⟨wr.heap.size+1,0,none⟩) n n);have br:=P0 n bs W.drew;rw[v,an]at br;have aN:=H.next (w':=aR) B.o bv Q (by rw[aM,v,an];exact M) (by rw[aM];exact L);have a3:=U aN;obtain⟨⟨_,_,_,_,_,_,_,_,_,_⟩,_⟩:=zJ ((D3 W (FP (List.replicate n 0)) _ O).trans aj);obtain⟨⟨_,_⟩,_⟩:=zD ((D3 W (FP (List.replicate n 0)) _ O).trans u);have bM:(W.alloc (FP (List.replicate n 0))).heap.size=W.heap.size+1:=zA _ _;have bq:wr.heap.size<(W.alloc (FP (List.replicate n 0))).heap.size:=O
     have bN:w.heap.size+1+1+1<(W.alloc (FP (List.replicate n 0))).heap.size:=O
     clear H aN M L G c u aj Q ax ay az aA aB aC aD aE aF aG aH ap X
     go_region
     all_goals
      go_wp2_with fail;go_roundw
      case rel=>exact⟨i+1,_,O,by go_num,a3.o⟩
      case measure=>simp[intOf];omega
    .have bl:i=p.wa.length:=by omega
     subst bl;go_wp2_with fail;go_ret;exact⟨rfl,_,_,_,_,av.o,aw.o,rfl⟩
open Classical in
noncomputable def QU(H:Nat)(b:List Nat)(k:Nat):Lb:=
 if k<H then .gl else if k=H+1 then .funs else if k=H+1+1 then .arrs else if k=H+1+1+1 then .mach else if a:∃i:Nat,b[i]?=some k then .arr (Classical.choose a)else .code
theorem zbw{c:List Nat}(b:c.Pairwise (· < ·)){i j g:Nat}(f:c[i]?=some g)(k:c[j]?=some g):i=j:=by
 obtain⟨d,_⟩:=List.getElem?_eq_some_iff.1 f;obtain⟨e,_⟩:=List.getElem?_eq_some_iff.1 k;rw[List.pairwise_iff_getElem]at b;rcases Nat.lt_trichotomy i j with a|a|a
 .have:=b i j d e a
  omega
 .exact a
 .have:=b j i e d a
  omega
theorem L9{H:Nat}{b:List Nat}{k:Nat}(a:k<H):QU H b k=.gl:=Dm a
theorem VB{H:Nat}{a:List Nat}:QU H a (H+1)=.funs:=by unfold QU;rw[Dl O,Dm rfl]
theorem VC{H:Nat}{a:List Nat}:QU H a (H+1+1)=.arrs:=by unfold QU;rw[Dl O,Dl O,Dm rfl]
theorem VD{H:Nat}{a:List Nat}:QU H a (H+1+1+1)=.mach:=by unfold QU;rw[Dl O,Dl O,Dl O,Dm rfl]
theorem ZX{H:Nat}{a:List Nat}(d:a.Pairwise (· < ·)){k g:Nat}(c:a[k]?=some g)(_:H+4<=g):QU H a g=.arr k:=by
 have b:∃i:Nat,a[i]?=some g:=⟨k,c⟩
 unfold QU;rw[Dl O,Dl O,Dl O,Dl O,dif_pos b,zbw d (Co b) c]
theorem VE{H:Nat}{a:List Nat}{g:Nat}(_:H+4<=g)(b:¬ ∃i:Nat,a[i]?=some g):QU H a g=.code:=by
 unfold QU;rw[Dl O,Dl O,Dl O,Dl O,dif_neg b]
theorem VF{H:Nat}{p:Pr}{G:C4}{av:Obj}{w t d:C3}{I:C2->C4}{E:List Nat}{C:List Int}{F:Nat}(_:H=w.heap.size)(u:U8 H p G av w p.funcs.length I t)(m:XK H p t p.wa.length E d)(ap:G9 p)(ar:d6 H w)(ao:eK p=true)(ai:lQ H w G C)(al:eJ C)(hF:F<=1000000):
 MW ⟨H,H+1+1+1,p,H+1,H+1+1,I,fun k o=>k<H/\w.heap[k]?=some o⟩ (QU H E) (d.setCell (H+1+1+1,9) ((F:Int):Int)) ⟨⟨p.wa.map fun a=>List.replicate a.size.toNat 0,C,[],0,F,0,false⟩,[],[]⟩/\Below H w (d.setCell (H+1+1+1,9) ((F:Int):Int)):=by
 have aG:=u.sz;have aH:=m.off.size;have an:=m.off.at (by omega:¬(H+1+1+1=H+1+1)) u.mb;have K:Below (H+1+1+1) d (d.setCell (H+1+1+1,9) ((F:Int):Int)):=Zb.setCell (p:=(H+1+1+1,9)) Zr _;have A:∀k,k≠H+1+1+1->(d.setCell (H+1+1+1,9) ((F:Int):Int)).heap[k]?=d.heap[k]?:=fun k c=>Dx d _ _ k c
 have aI:(d.setCell (H+1+1+1,9) ((F:Int):Int)).heap.size=d.heap.size:=Uu
 have ag:=D0 (i:=9) an (.int .i64 (F:Int));generalize d.setCell (H+1+1+1,9) ((F:Int):Int)=W at *;have af:Below H w d:=u.bel.trans (m.off.below O fun k c (e:k=H+1+1)=>O);have J:Below H t W:=(m.off.below O fun k c (e:k=H+1+1)=>O).trans (K.mono O);have q:Below H w W:=af.trans (K.mono O);have M:∀k,k<t.heap.size->k≠H+1+1->k≠H+1+1+1->W.heap[k]?=t.heap[k]?:=fun k c ad ae=>(A k ae).trans (m.off.block k c ad)
 refine⟨⟨G,.slice none 0 0,.pointer none,.slice none 0 0,?_⟩,q⟩;refine⟨(by show H<=W.heap.size;omega),fun k c=>L9 c,ar.below q,ao,ag,VD,ai.below q Zr,⟨Ym _ _ _ _,fun b q=>(by cases q)⟩,⟨Ym _ _ _ _,fun b q=>(by cases q)⟩,rfl,?_,?_,fun n B=>(by cases B),al,Dy _,(by show 0+F<=1000000000;omega),fun k o c=>?_⟩
 .refine⟨VB,⟨_,u.fm.wd (M _ O O O)⟩,fun s f L=>?_⟩
  unfold jN at L;obtain⟨i,aj,ak⟩:=Option.bind_eq_some_iff.1 L;obtain⟨g,y,ah,_⟩:=ye aj
  have e:g=f:=by
   have:p.funcs[i]?=some f:=ak;rw[y]at this;injection this
  subst e;obtain⟨aD,aC,R,S,X,aa,D,q4,aw⟩:=u.fs i g (List.getElem?_eq_some_iff.1 y).1 y;refine⟨aD,aC,by rw[<-ah];exact R,S.below J Zr,X,aa,D,q4,fun aq=>?_⟩;obtain⟨b,ax,ay,aA,aB⟩:=aw aq;have c:=M b aA O O;refine⟨b,ax,VE ay fun⟨k,P⟩=>?_,O,fun j x au=>?_⟩
  .have N:=(List.getElem?_eq_some_iff.1 P).1
   obtain⟨a,r⟩:∃a,p.wa[k]?=some a:=⟨_,Dz (by rw[m.rl]at N;exact N)⟩
   have:=(m.row k b a P r).1;omega
  .obtain⟨Y,Z,c',ab,z,aE,T,V,aF⟩:=aB j x au
   have v:∀o,W.cell? ⟨b,o,none⟩=t.cell? ⟨b,o,none⟩:=fun o=>D4 c
   exact⟨Y,Z,c',ab,z.below J Zr,(v _).trans aE,(v _).trans T,(v _).trans V,(v _).trans aF⟩
 .refine⟨E,VC,by rw[Yd],by rw[m.rl,Yd],⟨_,(m.am.wd (A _ O)).congr fun s=>?_⟩,fun k g l c Q=>?_⟩
  .unfold JH ZW
   rw[Y9];cases hidx:ze p.wa s with
   |none=>rfl
   |some k=>
     obtain⟨a,r,_⟩:=C6 hidx;simp[Yk,Yl,r]
  .rw[Yl]at Q
   obtain⟨a,r,rfl⟩:=Option.map_eq_some_iff.1 Q;obtain⟨R,S,D⟩:=m.row k g a c r;obtain⟨_,T,V⟩:=ap.az a (Ye r);refine⟨ZX m.ord c O,(A g O).trans D,fun n B=>?_,by rw[Cm];omega⟩;rw[List.eq_of_mem_replicate B];exact⟨Up,Up⟩
 .exact⟨L9 c.1,(q.block k c.1).trans c.2⟩
