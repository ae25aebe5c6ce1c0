import Derived.Test.YthcmenajdcbnnaaGreatDoorAtEvCj
import Derived.Shelf.SlMaps.Clone
set_option linter.unusedSimpArgs false
set_option linter.unusedVariables false
set_option maxRecDepth 100000
set_option maxHeartbeats 99000000
/- The developers' machine: an instruction. -/
namespace Go.Proofs.YthcmenajdcbnnaaGreatDoor
open Lib (hid)
open Go.RowKit Go.Maps
def VOut(G:Gm)(w:World)(x:VR)(e:Ending)(w':World):Prop:=match x with
 | .go m=>uX G w m (.tuple #[]) e w'
 | .stop c t=>xr G w c t e w'
 | .bad=>True
theorem MwI.fetch{G:Gm}{τ:Nat->Lb}{w:World}{m:Vm}{H J u I:Value}(f:MwI G τ w m H J u I){c:Fr}{r:List Fr}(R:m.cs=c::r){x:Ins}(F:c.code[c.pl]? =some x):
 ∃a g n q y mp z j l o p,u=.pointer (some ⟨a,0,none⟩)/\w.heap[a]? =some (caO (.slice (some ⟨g,0,none⟩) n q) c.pl mp z y)/\c.pl<n/\n<=281474976710656/\g<w.heap.size/\τ g=.code/\g≠a/\g≠G.b/\a≠G.b/\G.B<=a/\InsP G.B w x j l o p/\
   (w.cell? ⟨g,c.pl*4,none⟩=some j/\w.cell? ⟨g,c.pl*4+1,none⟩=some l/\w.cell? ⟨g,c.pl*4+2,none⟩=some o/\w.cell? ⟨g,c.pl*4+3,none⟩=some p)/\
   MwI G τ (w.setCell ⟨a,1,none⟩ (.int .i64 ((c.pl:Int)+1))) ⟨m.s,m.v,{ c with pl:=c.pl+1 } :: r⟩ H J u I/\Below G.B w (w.setCell ⟨a,1,none⟩ (.int .i64 ((c.pl:Int)+1))):=by
 have C:=f.frs;rw[R]at C;obtain⟨a,y,ae,mp,z,locs,ad,D,d,aa⟩:=C;obtain⟨ab,q,rfl,Y,S⟩:=d.code;have Z:=(List.getElem?_eq_some_iff.1 F).1;obtain⟨g,rfl,i,V,T⟩:=S I7;obtain⟨j,l,o,p,W,K,L,M,N⟩:=T _ _ F;have U:g≠a:=fun e=>by rw[e,d.lab]at i;cases i
 have P:a≠G.b:=fun e=>by have:=d.lab;rw[e,f.lab]at this;cases this
 have O:G.B<=a:=by
  rcases Nat.lt_or_ge a G.B with t|t
  .have:=f.old _ t
   rw[d.lab]at this;cases this
  .exact t
 have A:OffX (fun k=>XD r.length (τ k)) w (w.setCell ⟨a,1,none⟩ (.int .i64 ((c.pl+1 :Nat):Int))):=OffX.set (X:=fun k=>XD r.length (τ k)) w (.inl d.lab) 1 _;have Q:=f.below (X:=XD r.length) A (xd_gl _).1;have E:=f.top D A (Ext.refl τ w) aa (d.place Q);exact⟨a,g,c.code.length,q,y,mp,z,j,l,o,p,D,d.box,Z,Y,V,i,U,(fun e=>by rw[e,f.lab]at i;cases i),P,O,W,⟨K,L,M,N⟩,E.1,E.2⟩
theorem MwI.same{G:Gm}{τ:Nat->Lb}{w w':World}{m:Vm}{c d b vo:Value}(e:MwI G τ w m c d b vo)(a:w'.heap=w.heap)(f:w'.os=w.os)(g:w'.tape=w.tape)(i:w'.output=w.output):MwI G τ w' m c d b vo:=
 e.keepB ⟨f,g,i,by rw[a];exact Nat.le_refl _,fun k _=>by rw[a]⟩
theorem zq{B:Nat}{a w w':World}(c:Below B a w)(b:w'.heap=w.heap)(d:w'.os=w.os)(e:w'.tape=w.tape)(f:w'.output=w.output):Below B a w':=
 c.trans ⟨d,e,f,by rw[b];exact Nat.le_refl _,fun k _=>by rw[b]⟩
theorem mnext_app{G:Gm}{τ:Nat->Lb}{w:World}{m:Vm}(aB:MW G τ w m){c:Fr}{r:List Fr}(aj:m.cs=c::r){e:Ex}{x:VR}(aC:x≠.bad)(ai:∀τ (W:World) v,MW G τ W ⟨m.s,m.v,{ c with pl:=c.pl+1 } :: r⟩->PtE G.B W v e->Calls Tryz.prog 94 #[.pointer (some ⟨G.b,0,none⟩),v] W (VOut G W x))(al:c.code[c.pl]? =some (.app e)):
 Calls Tryz.prog 70 #[.pointer (some ⟨G.b,0,none⟩)] w (VOut G w x):=by
 obtain⟨a2,a5,a0,a3,p⟩:=aB;obtain⟨a,g,n,aJ,a1,mp,a4,aW,aX,aY,aZ,rfl,H,aU,aS,aO,aP,ak,ay,aw,aK,az,⟨A,C,D,E⟩,ah,F⟩:=p.fetch aj al;obtain⟨⟨N,O,P,Q,R,S,T,U,V,X⟩,Y⟩:=zI p.box;obtain⟨⟨Z,aa,ab,ad,ae⟩,af⟩:=zQ H;have aR:=p.lt;have aQ:=zB H;have aT:(c.pl:Int)<(n:Int):=I7
 have aV:IntKind.i64.wrap ((c.pl:Int)+1)=(c.pl:Int)+1:=Ie
 have aL:a≠g:=fun e=>ak e.symm
 have aM:G.b≠a:=fun e=>aw e.symm
 have aN:G.b≠g:=fun e=>ay e.symm
 have f:∀i,(w.setCell ⟨a,1,none⟩ (.int .i64 ((c.pl:Int)+1))).cell? ⟨g,i,none⟩=w.cell? ⟨g,i,none⟩:=fun i=>World.cell?_of_block (Below.heap_setCell w _ _ g ak)
 have j:=(f (c.pl*4)).trans A;have k:=(f (c.pl*4+1)).trans C;have l:=(f (c.pl*4+2)).trans D;have o:=(f (c.pl*4+3)).trans E;obtain⟨rfl,rfl,I,rfl⟩:=az;have aI:=hid (show True from trivial);have J:=hid ah;have L:=hid F;have d:(w.setCell ⟨a,1,none⟩ (.int .i64 ((c.pl:Int)+1))).heap.size=w.heap.size:=Id
 have M:=hid (I.below F Zr);have K:=hid ai;obtain⟨ag,op,rfl,_⟩:=id I;clear I ai;clear p aj al ah F H f;rcases x with aF|⟨ao,aG⟩|_
 .show Calls _ _ _ _ (uX G w aF (.tuple #[]))
  go_enter Tryz.func70,Tryz.ntmps70;go_wp2_with (fail)
  go_quiet (fail)
  go_upto_region 3 with(fail);have z:=hid (J.out.same (w':=(w.drewN nq).setCell ⟨a,1,none⟩ (.int .i64 ((c.pl:Int)+1))) rfl rfl rfl rfl);have u:=hid (zq L.out (w':=(w.drewN nq).setCell ⟨a,1,none⟩ (.int .i64 ((c.pl:Int)+1))) rfl rfl rfl rfl);have y:=hid (show PtE G.B ((w.drewN nq).setCell ⟨a,1,none⟩ (.int .i64 ((c.pl:Int)+1))) (.pointer (some ⟨ag,op,none⟩)) e from M.out.below (zq Zb rfl rfl rfl rfl) Zr);have ap:((w.drewN nq).setCell ⟨a,1,none⟩ (.int .i64 ((c.pl:Int)+1))).cell? ⟨g,c.pl*4,none⟩=_:=j;have aq:((w.drewN nq).setCell ⟨a,1,none⟩ (.int .i64 ((c.pl:Int)+1))).cell? ⟨g,c.pl*4+1,none⟩=_:=k;have ar:((w.drewN nq).setCell ⟨a,1,none⟩ (.int .i64 ((c.pl:Int)+1))).cell? ⟨g,c.pl*4+2,none⟩=_:=l;have au:((w.drewN nq).setCell ⟨a,1,none⟩ (.int .i64 ((c.pl:Int)+1))).cell? ⟨g,c.pl*4+3,none⟩=_:=o;have aD:((w.drewN nq).setCell ⟨a,1,none⟩ (.int .i64 ((c.pl:Int)+1))).heap.size<=w.heap.size:=Nat.le_of_eq d;have aE:w.heap.size<=((w.drewN nq).setCell ⟨a,1,none⟩ (.int .i64 ((c.pl:Int)+1))).heap.size:=Nat.le_of_eq d.symm;clear j k l o d N O P Q R S T U V X Y Z aa ab ad ae af A C D E;generalize(w.drewN nq).setCell ⟨a,1,none⟩ (.int .i64 ((c.pl:Int)+1))=W at *;have ax:g<W.heap.size:=I7
  have aA:G.b<W.heap.size:=I7
  have av:a<W.heap.size:=I7
  go_wp2_with (first
   | (go_at_call 94;(refine(K.out τ W _ ⟨_,_,_,_,z.out⟩ y.out).mono ?_);rintro e aH ⟨rfl,t,q⟩
      have an:=hid t;have am:=hid q
      clear t q))
  go_end0
  exact⟨rfl,an.out,u.out.trans am.out⟩
 .show Calls _ _ _ _ (xr G w ao aG)
  go_enter Tryz.func70,Tryz.ntmps70;go_wp2_with (fail)
  go_quiet (fail)
  go_upto_region 3 with(fail);have z:=hid (J.out.same (w':=(w.drewN nq).setCell ⟨a,1,none⟩ (.int .i64 ((c.pl:Int)+1))) rfl rfl rfl rfl);have u:=hid (zq L.out (w':=(w.drewN nq).setCell ⟨a,1,none⟩ (.int .i64 ((c.pl:Int)+1))) rfl rfl rfl rfl);have y:=hid (show PtE G.B ((w.drewN nq).setCell ⟨a,1,none⟩ (.int .i64 ((c.pl:Int)+1))) (.pointer (some ⟨ag,op,none⟩)) e from M.out.below (zq Zb rfl rfl rfl rfl) Zr);have ap:((w.drewN nq).setCell ⟨a,1,none⟩ (.int .i64 ((c.pl:Int)+1))).cell? ⟨g,c.pl*4,none⟩=_:=j;have aq:((w.drewN nq).setCell ⟨a,1,none⟩ (.int .i64 ((c.pl:Int)+1))).cell? ⟨g,c.pl*4+1,none⟩=_:=k;have ar:((w.drewN nq).setCell ⟨a,1,none⟩ (.int .i64 ((c.pl:Int)+1))).cell? ⟨g,c.pl*4+2,none⟩=_:=l;have au:((w.drewN nq).setCell ⟨a,1,none⟩ (.int .i64 ((c.pl:Int)+1))).cell? ⟨g,c.pl*4+3,none⟩=_:=o;have aD:((w.drewN nq).setCell ⟨a,1,none⟩ (.int .i64 ((c.pl:Int)+1))).heap.size<=w.heap.size:=Nat.le_of_eq d;have aE:w.heap.size<=((w.drewN nq).setCell ⟨a,1,none⟩ (.int .i64 ((c.pl:Int)+1))).heap.size:=Nat.le_of_eq d.symm;clear j k l o d N O P Q R S T U V X Y Z aa ab ad ae af A C D E;generalize(w.drewN nq).setCell ⟨a,1,none⟩ (.int .i64 ((c.pl:Int)+1))=W at *;have ax:g<W.heap.size:=I7
  have aA:G.b<W.heap.size:=I7
  have av:a<W.heap.size:=I7
  go_wp2_with (first
   | (go_at_call 94;(refine(K.out τ W _ ⟨_,_,_,_,z.out⟩ y.out).mono ?_);rintro e aH ⟨rfl,t,q⟩;exact⟨rfl,rfl,t,u.out.trans q⟩))
 .exact absurd rfl aC
theorem mnext_fin{G:Gm}{τ:Nat->Lb}{w:World}{m:Vm}(aB:MW G τ w m){c:Fr}{r:List Fr}(aj:m.cs=c::r){e:St}{x:VR}(aC:x≠.bad)(ai:∀τ (W:World) v,MW G τ W ⟨m.s,m.v,{ c with pl:=c.pl+1 } :: r⟩->PtS G.B W v e->Calls Tryz.prog 95 #[.pointer (some ⟨G.b,0,none⟩),v] W (VOut G W x))(al:c.code[c.pl]? =some (.fin e)):
 Calls Tryz.prog 70 #[.pointer (some ⟨G.b,0,none⟩)] w (VOut G w x):=by
 obtain⟨a2,a5,a0,a3,p⟩:=aB;obtain⟨a,g,n,aJ,a1,mp,a4,aW,aX,aY,aZ,rfl,H,aU,aS,aO,aP,ak,ay,aw,aK,az,⟨A,C,D,E⟩,ah,F⟩:=p.fetch aj al;obtain⟨⟨N,O,P,Q,R,S,T,U,V,X⟩,Y⟩:=zI p.box;obtain⟨⟨Z,aa,ab,ad,ae⟩,af⟩:=zQ H;have aR:=p.lt;have aQ:=zB H;have aT:(c.pl:Int)<(n:Int):=I7
 have aV:IntKind.i64.wrap ((c.pl:Int)+1)=(c.pl:Int)+1:=Ie
 have aL:a≠g:=fun e=>ak e.symm
 have aM:G.b≠a:=fun e=>aw e.symm
 have aN:G.b≠g:=fun e=>ay e.symm
 have f:∀i,(w.setCell ⟨a,1,none⟩ (.int .i64 ((c.pl:Int)+1))).cell? ⟨g,i,none⟩=w.cell? ⟨g,i,none⟩:=fun i=>World.cell?_of_block (Below.heap_setCell w _ _ g ak)
 have j:=(f (c.pl*4)).trans A;have k:=(f (c.pl*4+1)).trans C;have l:=(f (c.pl*4+2)).trans D;have o:=(f (c.pl*4+3)).trans E;obtain⟨rfl,rfl,rfl,I⟩:=az;have aI:=hid (show True from trivial);have J:=hid ah;have L:=hid F;have d:(w.setCell ⟨a,1,none⟩ (.int .i64 ((c.pl:Int)+1))).heap.size=w.heap.size:=Id
 have M:=hid (I.below F Zr);have K:=hid ai;obtain⟨ag,op,rfl,_⟩:=id I;clear I ai;clear p aj al ah F H f;rcases x with aF|⟨ao,aG⟩|_
 .show Calls _ _ _ _ (uX G w aF (.tuple #[]))
  go_enter Tryz.func70,Tryz.ntmps70;go_wp2_with (fail)
  go_quiet (fail)
  go_upto_region 3 with(fail);have z:=hid (J.out.same (w':=(w.drewN nq).setCell ⟨a,1,none⟩ (.int .i64 ((c.pl:Int)+1))) rfl rfl rfl rfl);have u:=hid (zq L.out (w':=(w.drewN nq).setCell ⟨a,1,none⟩ (.int .i64 ((c.pl:Int)+1))) rfl rfl rfl rfl);have y:=hid (show PtS G.B ((w.drewN nq).setCell ⟨a,1,none⟩ (.int .i64 ((c.pl:Int)+1))) (.pointer (some ⟨ag,op,none⟩)) e from M.out.below (zq Zb rfl rfl rfl rfl) Zr);have ap:((w.drewN nq).setCell ⟨a,1,none⟩ (.int .i64 ((c.pl:Int)+1))).cell? ⟨g,c.pl*4,none⟩=_:=j;have aq:((w.drewN nq).setCell ⟨a,1,none⟩ (.int .i64 ((c.pl:Int)+1))).cell? ⟨g,c.pl*4+1,none⟩=_:=k;have ar:((w.drewN nq).setCell ⟨a,1,none⟩ (.int .i64 ((c.pl:Int)+1))).cell? ⟨g,c.pl*4+2,none⟩=_:=l;have au:((w.drewN nq).setCell ⟨a,1,none⟩ (.int .i64 ((c.pl:Int)+1))).cell? ⟨g,c.pl*4+3,none⟩=_:=o;have aD:((w.drewN nq).setCell ⟨a,1,none⟩ (.int .i64 ((c.pl:Int)+1))).heap.size<=w.heap.size:=Nat.le_of_eq d;have aE:w.heap.size<=((w.drewN nq).setCell ⟨a,1,none⟩ (.int .i64 ((c.pl:Int)+1))).heap.size:=Nat.le_of_eq d.symm;clear j k l o d N O P Q R S T U V X Y Z aa ab ad ae af A C D E;generalize(w.drewN nq).setCell ⟨a,1,none⟩ (.int .i64 ((c.pl:Int)+1))=W at *;have ax:g<W.heap.size:=I7
  have aA:G.b<W.heap.size:=I7
  have av:a<W.heap.size:=I7
  go_wp2_with (first
   | (go_at_call 95;(refine(K.out τ W _ ⟨_,_,_,_,z.out⟩ y.out).mono ?_);rintro e aH ⟨rfl,t,q⟩
      have an:=hid t;have am:=hid q
      clear t q))
  go_end0
  exact⟨rfl,an.out,u.out.trans am.out⟩
 .show Calls _ _ _ _ (xr G w ao aG)
  go_enter Tryz.func70,Tryz.ntmps70;go_wp2_with (fail)
  go_quiet (fail)
  go_upto_region 3 with(fail);have z:=hid (J.out.same (w':=(w.drewN nq).setCell ⟨a,1,none⟩ (.int .i64 ((c.pl:Int)+1))) rfl rfl rfl rfl);have u:=hid (zq L.out (w':=(w.drewN nq).setCell ⟨a,1,none⟩ (.int .i64 ((c.pl:Int)+1))) rfl rfl rfl rfl);have y:=hid (show PtS G.B ((w.drewN nq).setCell ⟨a,1,none⟩ (.int .i64 ((c.pl:Int)+1))) (.pointer (some ⟨ag,op,none⟩)) e from M.out.below (zq Zb rfl rfl rfl rfl) Zr);have ap:((w.drewN nq).setCell ⟨a,1,none⟩ (.int .i64 ((c.pl:Int)+1))).cell? ⟨g,c.pl*4,none⟩=_:=j;have aq:((w.drewN nq).setCell ⟨a,1,none⟩ (.int .i64 ((c.pl:Int)+1))).cell? ⟨g,c.pl*4+1,none⟩=_:=k;have ar:((w.drewN nq).setCell ⟨a,1,none⟩ (.int .i64 ((c.pl:Int)+1))).cell? ⟨g,c.pl*4+2,none⟩=_:=l;have au:((w.drewN nq).setCell ⟨a,1,none⟩ (.int .i64 ((c.pl:Int)+1))).cell? ⟨g,c.pl*4+3,none⟩=_:=o;have aD:((w.drewN nq).setCell ⟨a,1,none⟩ (.int .i64 ((c.pl:Int)+1))).heap.size<=w.heap.size:=Nat.le_of_eq d;have aE:w.heap.size<=((w.drewN nq).setCell ⟨a,1,none⟩ (.int .i64 ((c.pl:Int)+1))).heap.size:=Nat.le_of_eq d.symm;clear j k l o d N O P Q R S T U V X Y Z aa ab ad ae af A C D E;generalize(w.drewN nq).setCell ⟨a,1,none⟩ (.int .i64 ((c.pl:Int)+1))=W at *;have ax:g<W.heap.size:=I7
  have aA:G.b<W.heap.size:=I7
  have av:a<W.heap.size:=I7
  go_wp2_with (first
   | (go_at_call 95;(refine(K.out τ W _ ⟨_,_,_,_,z.out⟩ y.out).mono ?_);rintro e aH ⟨rfl,t,q⟩;exact⟨rfl,rfl,t,u.out.trans q⟩))
 .exact absurd rfl aC
theorem mnext_beg{G:Gm}{τ:Nat->Lb}{w:World}{m:Vm}(H:MW G τ w m){c:Fr}{r:List Fr}(af:m.cs=c::r)(ah:m.s.stat=0)(ai:c.code[c.pl]? =some .beg):
 Calls Tryz.prog 70 #[.pointer (some ⟨G.b,0,none⟩)] w (VOut G w (xP G.p .beg m.s m.v { c with pl:=c.pl+1 } r)):=by
 obtain⟨aU,aX,aS,aV,u⟩:=H;obtain⟨a,g,n,aB,aT,mp,aW,aO,aP,aQ,aR,rfl,F,aM,aK,aG,aH,ag,au,aq,aC,av,⟨B,C,D,E⟩,ad,ae⟩:=u.fetch af ai;obtain⟨⟨K,L,M,N,O,P,Q,R,S,T⟩,U⟩:=zI u.box;obtain⟨⟨V,X,Y,Z,aa⟩,ab⟩:=zQ F;have aJ:=u.lt;have aI:=zB F;have aL:(c.pl:Int)<(n:Int):=I7
 have aN:IntKind.i64.wrap ((c.pl:Int)+1)=(c.pl:Int)+1:=Ie
 have aD:a≠g:=fun e=>ag e.symm
 have aE:G.b≠a:=fun e=>aq e.symm
 have aF:G.b≠g:=fun e=>au e.symm
 have f:∀i,(w.setCell ⟨a,1,none⟩ (.int .i64 ((c.pl:Int)+1))).cell? ⟨g,i,none⟩=w.cell? ⟨g,i,none⟩:=fun i=>World.cell?_of_block (Below.heap_setCell w _ _ g ag)
 have k:=(f (c.pl*4)).trans B;have l:=(f (c.pl*4+1)).trans C;have o:=(f (c.pl*4+2)).trans D;have q:=(f (c.pl*4+3)).trans E;obtain⟨rfl,rfl,rfl,rfl⟩:=av;have aA:=hid (show True from trivial);have I:=hid ad;have J:=hid ae;have d:(w.setCell ⟨a,1,none⟩ (.int .i64 ((c.pl:Int)+1))).heap.size=w.heap.size:=Id
 have j:=hid (show ∀τ (W:World),MW G τ W ⟨m.s,m.v,{ c with pl:=c.pl+1 } :: r⟩->Calls Tryz.prog 93 #[.pointer (some ⟨G.b,0,none⟩)] W fun e w'=>match qI m.s with
  | .ok _ t=>uX G W ⟨t,m.v,{ c with pl:=c.pl+1 } :: r⟩ (.tuple #[]) e w'
  | .fin t=>xr G W none t e w' from fun τ W H=>mstep_any H ah)
 clear ah;clear u af ai ad ae F f
 show Calls _ _ _ _ (VOut G w (match qI m.s with
  | .ok _ t=>.go ⟨t,m.v,{ c with pl:=c.pl+1 } :: r⟩
  | .fin t=>.stop none t))
 cases hst:qI m.s with
 | ok _ t=>
   rw[hst]at j;show Calls _ _ _ _ (uX G w ⟨t,m.v,{ c with pl:=c.pl+1 } :: r⟩ (.tuple #[]));go_enter Tryz.func70,Tryz.ntmps70;go_wp2_with (fail)
   go_quiet (fail)
   go_upto_region 3 with(fail);have A:=hid (I.out.same (w':=(w.drewN nq).setCell ⟨a,1,none⟩ (.int .i64 ((c.pl:Int)+1))) rfl rfl rfl rfl);have z:=hid (zq J.out (w':=(w.drewN nq).setCell ⟨a,1,none⟩ (.int .i64 ((c.pl:Int)+1))) rfl rfl rfl rfl);have al:((w.drewN nq).setCell ⟨a,1,none⟩ (.int .i64 ((c.pl:Int)+1))).cell? ⟨g,c.pl*4,none⟩=_:=k;have am:((w.drewN nq).setCell ⟨a,1,none⟩ (.int .i64 ((c.pl:Int)+1))).cell? ⟨g,c.pl*4+1,none⟩=_:=l;have an:((w.drewN nq).setCell ⟨a,1,none⟩ (.int .i64 ((c.pl:Int)+1))).cell? ⟨g,c.pl*4+2,none⟩=_:=o;have ao:((w.drewN nq).setCell ⟨a,1,none⟩ (.int .i64 ((c.pl:Int)+1))).cell? ⟨g,c.pl*4+3,none⟩=_:=q;have ax:((w.drewN nq).setCell ⟨a,1,none⟩ (.int .i64 ((c.pl:Int)+1))).heap.size<=w.heap.size:=Nat.le_of_eq d;have ay:w.heap.size<=((w.drewN nq).setCell ⟨a,1,none⟩ (.int .i64 ((c.pl:Int)+1))).heap.size:=Nat.le_of_eq d.symm;clear k l o q d K L M N O P Q R S T U V X Y Z aa ab B C D E;generalize(w.drewN nq).setCell ⟨a,1,none⟩ (.int .i64 ((c.pl:Int)+1))=W at *;have ar:g<W.heap.size:=I7
   have aw:G.b<W.heap.size:=I7
   have ap:a<W.heap.size:=I7
   go_wp2_with (first
    | (go_at_call 93;(refine(j.out τ W ⟨_,_,_,_,A.out⟩).mono ?_);rintro e az ⟨rfl,y,x⟩
       have ak:=hid y;have aj:=hid x
       clear y x))
   go_end0
   exact⟨rfl,ak.out,z.out.trans aj.out⟩
 | fin t=>
   rw[hst]at j;show Calls _ _ _ _ (xr G w none t);go_enter Tryz.func70,Tryz.ntmps70;go_wp2_with (fail)
   go_quiet (fail)
   go_upto_region 3 with(fail);have A:=hid (I.out.same (w':=(w.drewN nq).setCell ⟨a,1,none⟩ (.int .i64 ((c.pl:Int)+1))) rfl rfl rfl rfl);have z:=hid (zq J.out (w':=(w.drewN nq).setCell ⟨a,1,none⟩ (.int .i64 ((c.pl:Int)+1))) rfl rfl rfl rfl);have al:((w.drewN nq).setCell ⟨a,1,none⟩ (.int .i64 ((c.pl:Int)+1))).cell? ⟨g,c.pl*4,none⟩=_:=k;have am:((w.drewN nq).setCell ⟨a,1,none⟩ (.int .i64 ((c.pl:Int)+1))).cell? ⟨g,c.pl*4+1,none⟩=_:=l;have an:((w.drewN nq).setCell ⟨a,1,none⟩ (.int .i64 ((c.pl:Int)+1))).cell? ⟨g,c.pl*4+2,none⟩=_:=o;have ao:((w.drewN nq).setCell ⟨a,1,none⟩ (.int .i64 ((c.pl:Int)+1))).cell? ⟨g,c.pl*4+3,none⟩=_:=q;have ax:((w.drewN nq).setCell ⟨a,1,none⟩ (.int .i64 ((c.pl:Int)+1))).heap.size<=w.heap.size:=Nat.le_of_eq d;have ay:w.heap.size<=((w.drewN nq).setCell ⟨a,1,none⟩ (.int .i64 ((c.pl:Int)+1))).heap.size:=Nat.le_of_eq d.symm;clear k l o q d K L M N O P Q R S T U V X Y Z aa ab B C D E;generalize(w.drewN nq).setCell ⟨a,1,none⟩ (.int .i64 ((c.pl:Int)+1))=W at *;have ar:g<W.heap.size:=I7
   have aw:G.b<W.heap.size:=I7
   have ap:a<W.heap.size:=I7
   go_wp2_with (first
    | (go_at_call 93;(refine(j.out τ W ⟨_,_,_,_,A.out⟩).mono ?_);rintro e az ⟨rfl,y,x⟩;exact⟨rfl,rfl,y,z.out.trans x⟩))
theorem mnext_jmp{G:Gm}{τ:Nat->Lb}{w:World}{m:Vm}(ar:MW G τ w m){c:Fr}{r:List Fr}(L:m.cs=c::r){t:Nat}(P:c.code[c.pl]? =some (.jmp t)):
 Calls Tryz.prog 70 #[.pointer (some ⟨G.b,0,none⟩)] w (uX G w ⟨m.s,m.v,{ c with pl:=t } :: r⟩ (.tuple #[])):=by
 obtain⟨a6,ba,a2,a7,j⟩:=ar;obtain⟨a,g,n,av,a3,mp,a8,aV,aW,aX,aY,rfl,o,aR,aP,aK,aL,M,ap,an,aE,aq,⟨z,A,B,C⟩,I,K⟩:=j.fetch L P;obtain⟨⟨U,V,y,Y,Z,aa,ab,ad,ae,af⟩,ag⟩:=zI j.box;obtain⟨⟨ah,ai,aj,ak,al⟩,am⟩:=zQ o;have aO:=j.lt;have aN:=zB o;have aQ:(c.pl:Int)<(n:Int):=I7
 have aS:IntKind.i64.wrap ((c.pl:Int)+1)=(c.pl:Int)+1:=Ie
 have aG:a≠g:=fun e=>M e.symm
 have aH:G.b≠a:=fun e=>an e.symm
 have aI:G.b≠g:=fun e=>ap e.symm
 have f:∀i,(w.setCell ⟨a,1,none⟩ (.int .i64 ((c.pl:Int)+1))).cell? ⟨g,i,none⟩=w.cell? ⟨g,i,none⟩:=fun i=>World.cell?_of_block (Below.heap_setCell w _ _ g M)
 have D:=(f (c.pl*4)).trans z;have E:=(f (c.pl*4+1)).trans A;have F:=(f (c.pl*4+2)).trans B;have H:=(f (c.pl*4+3)).trans C;obtain⟨rfl,rfl,rfl,rfl⟩:=aq;have au:=hid (show True from trivial);have Q:=hid I;have R:=hid K;have u:(w.setCell ⟨a,1,none⟩ (.int .i64 ((c.pl:Int)+1))).heap.size=w.heap.size:=Id
 clear j L P I K o f;go_enter Tryz.func70,Tryz.ntmps70;go_wp2_with (fail)
 go_quiet (fail)
 go_upto_region 3 with(fail);have l:=hid (Q.out.same (w':=(w.drewN nq).setCell ⟨a,1,none⟩ (.int .i64 ((c.pl:Int)+1))) rfl rfl rfl rfl);have S:=hid (zq R.out (w':=(w.drewN nq).setCell ⟨a,1,none⟩ (.int .i64 ((c.pl:Int)+1))) rfl rfl rfl rfl);have aw:((w.drewN nq).setCell ⟨a,1,none⟩ (.int .i64 ((c.pl:Int)+1))).cell? ⟨g,c.pl*4,none⟩=_:=D;have ax:((w.drewN nq).setCell ⟨a,1,none⟩ (.int .i64 ((c.pl:Int)+1))).cell? ⟨g,c.pl*4+1,none⟩=_:=E;have ay:((w.drewN nq).setCell ⟨a,1,none⟩ (.int .i64 ((c.pl:Int)+1))).cell? ⟨g,c.pl*4+2,none⟩=_:=F;have az:((w.drewN nq).setCell ⟨a,1,none⟩ (.int .i64 ((c.pl:Int)+1))).cell? ⟨g,c.pl*4+3,none⟩=_:=H;have aT:((w.drewN nq).setCell ⟨a,1,none⟩ (.int .i64 ((c.pl:Int)+1))).heap.size<=w.heap.size:=Nat.le_of_eq u;have aU:w.heap.size<=((w.drewN nq).setCell ⟨a,1,none⟩ (.int .i64 ((c.pl:Int)+1))).heap.size:=Nat.le_of_eq u.symm;clear D E F H u U V y Y Z aa ab ad ae af ag ah ai aj ak al am z A B C;generalize(w.drewN nq).setCell ⟨a,1,none⟩ (.int .i64 ((c.pl:Int)+1))=W at *;have aJ:g<W.heap.size:=I7
 have aM:G.b<W.heap.size:=I7
 have aF:a<W.heap.size:=I7
 have ao:=l.out.frs;obtain⟨y,a4,a5,a0,a9,aZ,a1,d,q,N⟩:=ao;injection d with d;injection d with d;injection d with d _ _;subst d;obtain⟨⟨aA,f1,aB,f3,aC⟩,aD⟩:=zQ q.box;have x:=hid q;have T:=hid N;clear q N;go_wp2_with (fail)
 go_end0
 have J:OffX (fun k=>XD r.length (τ k)) W (W.setCell ⟨a,1,none⟩ (.int .i64 (t:Int))):=OffX.set (X:=fun k=>XD r.length (τ k)) W (.inl x.out.lab) 1 _;have O:=l.out.top rfl J (Ext.refl τ W) T.out (x.out.place (p:=t) (l.out.below (X:=XD r.length) J (xd_gl _).1));exact⟨rfl,⟨_,_,_,_,_,O.1⟩,S.out.trans O.2⟩
theorem mnext_unl0{G:Gm}{τ:Nat->Lb}{w:World}{m:Vm}(aJ:MW G τ w m){c:Fr}{r:List Fr}(U:m.cs=c::r){t:Nat}{q:List Int}(ab:m.v=q++[0])(a6:q.length<=1000000000)(ad:c.code[c.pl]? =some (.unl t)):
 Calls Tryz.prog 70 #[.pointer (some ⟨G.b,0,none⟩)] w (uX G w ⟨m.s,q,{ c with pl:=t } :: r⟩ (.tuple #[])):=by
 obtain⟨bw,bC,bs,bx,o⟩:=aJ;obtain⟨a,g,n,aP,bt,mp,bz,bj,bk,bl,bm,rfl,y,bd,bb,a4,a5,V,Y,aH,aW,aI,⟨J,K,L,M⟩,R,T⟩:=o.fetch U ad;obtain⟨⟨an,ao,I,ap,aq,ar,au,av,aw,ax⟩,ay⟩:=zI o.box;obtain⟨⟨az,aA,aB,aC,aD⟩,aE⟩:=zQ y;have ba:=o.lt;have a9:=zB y;have bc:(c.pl:Int)<(n:Int):=I7
 have be:IntKind.i64.wrap ((c.pl:Int)+1)=(c.pl:Int)+1:=Ie
 have aZ:a≠g:=fun e=>V e.symm
 have a0:G.b≠a:=fun e=>aH e.symm
 have a1:G.b≠g:=fun e=>Y e.symm
 have f:∀i,(w.setCell ⟨a,1,none⟩ (.int .i64 ((c.pl:Int)+1))).cell? ⟨g,i,none⟩=w.cell? ⟨g,i,none⟩:=fun i=>World.cell?_of_block (Below.heap_setCell w _ _ g V)
 have N:=(f (c.pl*4)).trans J;have O:=(f (c.pl*4+1)).trans K;have P:=(f (c.pl*4+2)).trans L;have Q:=(f (c.pl*4+3)).trans M;obtain⟨rfl,rfl,rfl,rfl⟩:=aI;have aN:=hid (show True from trivial);have ag:=hid R;have ah:=hid T;have C:(w.setCell ⟨a,1,none⟩ (.int .i64 ((c.pl:Int)+1))).heap.size=w.heap.size:=Id
 have am:=hid ab;clear ab;clear o U ad R T y f;go_enter Tryz.func70,Tryz.ntmps70;go_wp2_with (fail)
 go_quiet (fail)
 go_upto_region 3 with(fail);have H:=hid (ag.out.same (w':=(w.drewN nq).setCell ⟨a,1,none⟩ (.int .i64 ((c.pl:Int)+1))) rfl rfl rfl rfl);have ai:=hid (zq ah.out (w':=(w.drewN nq).setCell ⟨a,1,none⟩ (.int .i64 ((c.pl:Int)+1))) rfl rfl rfl rfl);have aF:((w.drewN nq).setCell ⟨a,1,none⟩ (.int .i64 ((c.pl:Int)+1))).cell? ⟨g,c.pl*4,none⟩=_:=N;have aG:((w.drewN nq).setCell ⟨a,1,none⟩ (.int .i64 ((c.pl:Int)+1))).cell? ⟨g,c.pl*4+1,none⟩=_:=O;have aQ:((w.drewN nq).setCell ⟨a,1,none⟩ (.int .i64 ((c.pl:Int)+1))).cell? ⟨g,c.pl*4+2,none⟩=_:=P;have aR:((w.drewN nq).setCell ⟨a,1,none⟩ (.int .i64 ((c.pl:Int)+1))).cell? ⟨g,c.pl*4+3,none⟩=_:=Q;have bf:((w.drewN nq).setCell ⟨a,1,none⟩ (.int .i64 ((c.pl:Int)+1))).heap.size<=w.heap.size:=Nat.le_of_eq C;have bg:w.heap.size<=((w.drewN nq).setCell ⟨a,1,none⟩ (.int .i64 ((c.pl:Int)+1))).heap.size:=Nat.le_of_eq C.symm;clear N O P Q C an ao I ap aq ar au av aw ax ay az aA aB aC aD aE J K L M;generalize(w.drewN nq).setCell ⟨a,1,none⟩ (.int .i64 ((c.pl:Int)+1))=W at *;have a2:g<W.heap.size:=I7
 have a7:G.b<W.heap.size:=I7
 have aX:a<W.heap.size:=I7
 obtain⟨l,j,rfl,aK,aL,aM,af,D,ae⟩:=H.out.popped (q:=q) (x:=0) am.out;have aO:=hid af;have F:=hid D;have ak:=hid ae;obtain⟨I,bu,bv,bq,bA,bp,br,d,A,Z⟩:=D.frs;injection d with d;injection d with d;injection d with d _ _;subst d;obtain⟨⟨aS,f1,aT,f3,aU⟩,aV⟩:=zQ A.box;have E:=hid A;have al:=hid Z;have u:∀k,k≠G.b->(W.setCell ⟨G.b,3,none⟩ (.slice (some ⟨l,0,none⟩) q.length j)).heap[k]? =W.heap[k]?:=fun k u=>Below.heap_setCell W _ _ k u
 have z:∀i,(W.setCell ⟨G.b,3,none⟩ (.slice (some ⟨l,0,none⟩) q.length j)).cell? ⟨g,i,none⟩=W.cell? ⟨g,i,none⟩:=fun i=>World.cell?_of_block (u g Y)
 have bn:=(z _).trans aF;have bo:=(z _).trans aG;have B:(W.setCell ⟨G.b,3,none⟩ (.slice (some ⟨l,0,none⟩) q.length j)).heap.size=W.heap.size:=Id
 have bh:=Nat.le_of_eq B;have bi:=Nat.le_of_eq B.symm;have aj:=hid H.out.box;clear D ae af A Z u z B;go_upto_region 14 with(go_at_call 96;(refine(xI aj.out aK aL aM I7).mono ?_);rintro e bD ⟨rfl,rfl⟩);generalize W.setCell ⟨G.b,3,none⟩ (.slice (some ⟨l,0,none⟩) q.length j)=W4 at *;have a3:g<W4.heap.size:=I7
 have aY:a<W4.heap.size:=I7
 have a8:G.b<W4.heap.size:=I7
 go_wp2_with (fail)
 go_end0
 have S:OffX (fun k=>XD r.length (τ k)) W4 (W4.setCell ⟨a,1,none⟩ (.int .i64 (t:Int))):=OffX.set (X:=fun k=>XD r.length (τ k)) W4 (.inl E.out.lab) 1 _;have aa:=F.out.top rfl S (Ext.refl τ W4) al.out (E.out.place (p:=t) (F.out.below (X:=XD r.length) S (xd_gl _).1));exact⟨rfl,⟨_,_,_,_,_,aa.1⟩,(ai.out.trans ak.out).trans aa.2⟩
theorem mnext_unl1{G:Gm}{τ:Nat->Lb}{w:World}{m:Vm}(aE:MW G τ w m){c:Fr}{r:List Fr}(R:m.cs=c::r){t:Nat}{q:List Int}{x:Int}(V:m.v=q++[x])(O:x≠0)(a1:q.length<=1000000000)(X:c.code[c.pl]? =some (.unl t)):
 Calls Tryz.prog 70 #[.pointer (some ⟨G.b,0,none⟩)] w (uX G w ⟨m.s,q,{ c with pl:=c.pl+1 } :: r⟩ (.tuple #[])):=by
 obtain⟨br,bv,bn,bs,j⟩:=aE;obtain⟨a,g,n,aM,bo,mp,bt,be,bf,bg,bh,rfl,u,a7,a5,aZ,a0,S,T,aC,aT,aD,⟨F,H,I,J⟩,P,Q⟩:=j.fetch R X;obtain⟨⟨ai,aj,E,ak,al,am,an,ao,ap,aq⟩,ar⟩:=zI j.box;obtain⟨⟨au,av,aw,ax,ay⟩,az⟩:=zQ u;have a4:=j.lt;have a3:=zB u;have a6:(c.pl:Int)<(n:Int):=I7
 have a8:IntKind.i64.wrap ((c.pl:Int)+1)=(c.pl:Int)+1:=Ie
 have aV:a≠g:=fun e=>S e.symm
 have aW:G.b≠a:=fun e=>aC e.symm
 have aX:G.b≠g:=fun e=>T e.symm
 have f:∀i,(w.setCell ⟨a,1,none⟩ (.int .i64 ((c.pl:Int)+1))).cell? ⟨g,i,none⟩=w.cell? ⟨g,i,none⟩:=fun i=>World.cell?_of_block (Below.heap_setCell w _ _ g S)
 have K:=(f (c.pl*4)).trans F;have L:=(f (c.pl*4+1)).trans H;have M:=(f (c.pl*4+2)).trans I;have N:=(f (c.pl*4+3)).trans J;obtain⟨rfl,rfl,rfl,rfl⟩:=aD;have aJ:=hid (show True from trivial);have aa:=hid P;have ab:=hid Q;have B:(w.setCell ⟨a,1,none⟩ (.int .i64 ((c.pl:Int)+1))).heap.size=w.heap.size:=Id
 have ah:=hid V;have a9:(x == 0)=false:=Qn
 clear V O;clear j R X P Q u f;go_enter Tryz.func70,Tryz.ntmps70;go_wp2_with (fail)
 go_quiet (fail)
 go_upto_region 3 with(fail);have D:=hid (aa.out.same (w':=(w.drewN nq).setCell ⟨a,1,none⟩ (.int .i64 ((c.pl:Int)+1))) rfl rfl rfl rfl);have ad:=hid (zq ab.out (w':=(w.drewN nq).setCell ⟨a,1,none⟩ (.int .i64 ((c.pl:Int)+1))) rfl rfl rfl rfl);have aA:((w.drewN nq).setCell ⟨a,1,none⟩ (.int .i64 ((c.pl:Int)+1))).cell? ⟨g,c.pl*4,none⟩=_:=K;have aB:((w.drewN nq).setCell ⟨a,1,none⟩ (.int .i64 ((c.pl:Int)+1))).cell? ⟨g,c.pl*4+1,none⟩=_:=L;have aN:((w.drewN nq).setCell ⟨a,1,none⟩ (.int .i64 ((c.pl:Int)+1))).cell? ⟨g,c.pl*4+2,none⟩=_:=M;have aO:((w.drewN nq).setCell ⟨a,1,none⟩ (.int .i64 ((c.pl:Int)+1))).cell? ⟨g,c.pl*4+3,none⟩=_:=N;have ba:((w.drewN nq).setCell ⟨a,1,none⟩ (.int .i64 ((c.pl:Int)+1))).heap.size<=w.heap.size:=Nat.le_of_eq B;have bb:w.heap.size<=((w.drewN nq).setCell ⟨a,1,none⟩ (.int .i64 ((c.pl:Int)+1))).heap.size:=Nat.le_of_eq B.symm;clear K L M N B ai aj E ak al am an ao ap aq ar au av aw ax ay az F H I J;generalize(w.drewN nq).setCell ⟨a,1,none⟩ (.int .i64 ((c.pl:Int)+1))=W at *;have aY:g<W.heap.size:=I7
 have a2:G.b<W.heap.size:=I7
 have aU:a<W.heap.size:=I7
 obtain⟨p,o,rfl,aF,aG,aH,Z,C,Y⟩:=D.out.popped (q:=q) (x:=x) ah.out;have aK:=hid Z;have af:=hid C;have ag:=hid Y;obtain⟨E,bp,bq,bl,bu,bk,bm,d,z,U⟩:=C.frs;injection d with d;injection d with d;injection d with d _ _;subst d;obtain⟨⟨aP,f1,aQ,f3,aR⟩,aS⟩:=zQ z.box;have aI:=hid z;have aL:=hid U;have l:∀k,k≠G.b->(W.setCell ⟨G.b,3,none⟩ (.slice (some ⟨p,0,none⟩) q.length o)).heap[k]? =W.heap[k]?:=fun k l=>Below.heap_setCell W _ _ k l
 have y:∀i,(W.setCell ⟨G.b,3,none⟩ (.slice (some ⟨p,0,none⟩) q.length o)).cell? ⟨g,i,none⟩=W.cell? ⟨g,i,none⟩:=fun i=>World.cell?_of_block (l g T)
 have bi:=(y _).trans aA;have bj:=(y _).trans aB;have A:(W.setCell ⟨G.b,3,none⟩ (.slice (some ⟨p,0,none⟩) q.length o)).heap.size=W.heap.size:=Id
 have bc:=Nat.le_of_eq A;have bd:=Nat.le_of_eq A.symm;have ae:=hid D.out.box;clear C Y Z z U l y A;go_wp2_with (go_at_call 96;(refine(xI ae.out aF aG aH I7).mono ?_);rintro e bw ⟨rfl,rfl⟩)
 go_end0
 exact⟨rfl,⟨_,_,_,_,_,af.out⟩,ad.out.trans ag.out⟩
theorem mnext_lzy_true_jump{G:Gm}{τ:Nat->Lb}{w:World}{m:Vm}(aU:MW G τ w m){c:Fr}{r:List Fr}(ab:m.cs=c::r){t:Nat}{q:List Int}{x:Int}(aj:m.v=q++[x])(V:x=0)(bp:q.length<=1000000000)(ak:c.code[c.pl]? =some (.lzy true t)):
 Calls Tryz.prog 70 #[.pointer (some ⟨G.b,0,none⟩)] w (uX G w ⟨m.s,q++[x],{ c with pl:=t } :: r⟩ (.tuple #[])):=by
 obtain⟨bT,bW,bL,bU,z⟩:=aU;obtain⟨a,g,n,a8,bM,mp,bV,bG,bH,bI,bJ,rfl,E,bw,bu,bo,aS,ae,af,aR,bf,aT,⟨N,O,P,Q⟩,Y,aa⟩:=z.fetch ab ak;obtain⟨⟨az,aA,B,aB,aC,aD,aE,aF,aG,aH⟩,aI⟩:=zI z.box;obtain⟨⟨aJ,aK,aL,aM,aN⟩,aO⟩:=zQ E;have bt:=z.lt;have bs:=zB E;have bv:(c.pl:Int)<(n:Int):=I7
 have bx:IntKind.i64.wrap ((c.pl:Int)+1)=(c.pl:Int)+1:=Ie
 have bj:a≠g:=fun e=>ae e.symm
 have bk:G.b≠a:=fun e=>aR e.symm
 have bl:G.b≠g:=fun e=>af e.symm
 have l:∀i,(w.setCell ⟨a,1,none⟩ (.int .i64 ((c.pl:Int)+1))).cell? ⟨g,i,none⟩=w.cell? ⟨g,i,none⟩:=fun i=>World.cell?_of_block (Below.heap_setCell w _ _ g ae)
 have R:=(l (c.pl*4)).trans N;have S:=(l (c.pl*4+1)).trans O;have T:=(l (c.pl*4+2)).trans P;have U:=(l (c.pl*4+3)).trans Q;obtain⟨rfl,rfl,rfl,rfl⟩:=aT;have a6:=hid (show True from trivial);have an:=hid Y;have ao:=hid aa;have I:(w.setCell ⟨a,1,none⟩ (.int .i64 ((c.pl:Int)+1))).heap.size=w.heap.size:=Id
 have ay:=hid aj;have bz:(x == 0)=true:=by simpa using V
 clear aj V;clear z ab ak Y aa E l;go_enter Tryz.func70,Tryz.ntmps70;go_wp2_with (fail)
 go_quiet (fail)
 go_upto_region 3 with(fail);have M:=hid (an.out.same (w':=(w.drewN nq).setCell ⟨a,1,none⟩ (.int .i64 ((c.pl:Int)+1))) rfl rfl rfl rfl);have aq:=hid (zq ao.out (w':=(w.drewN nq).setCell ⟨a,1,none⟩ (.int .i64 ((c.pl:Int)+1))) rfl rfl rfl rfl);have aP:((w.drewN nq).setCell ⟨a,1,none⟩ (.int .i64 ((c.pl:Int)+1))).cell? ⟨g,c.pl*4,none⟩=_:=R;have aQ:((w.drewN nq).setCell ⟨a,1,none⟩ (.int .i64 ((c.pl:Int)+1))).cell? ⟨g,c.pl*4+1,none⟩=_:=S;have a9:((w.drewN nq).setCell ⟨a,1,none⟩ (.int .i64 ((c.pl:Int)+1))).cell? ⟨g,c.pl*4+2,none⟩=_:=T;have ba:((w.drewN nq).setCell ⟨a,1,none⟩ (.int .i64 ((c.pl:Int)+1))).cell? ⟨g,c.pl*4+3,none⟩=_:=U;have bA:((w.drewN nq).setCell ⟨a,1,none⟩ (.int .i64 ((c.pl:Int)+1))).heap.size<=w.heap.size:=Nat.le_of_eq I;have bC:w.heap.size<=((w.drewN nq).setCell ⟨a,1,none⟩ (.int .i64 ((c.pl:Int)+1))).heap.size:=Nat.le_of_eq I.symm;clear R S T U I az aA B aB aC aD aE aF aG aH aI aJ aK aL aM aN aO N O P Q;generalize(w.drewN nq).setCell ⟨a,1,none⟩ (.int .i64 ((c.pl:Int)+1))=W at *;have bm:g<W.heap.size:=I7
 have bq:G.b<W.heap.size:=I7
 have bg:a<W.heap.size:=I7
 obtain⟨y,u,rfl,aZ,a0,a1,am,J,al⟩:=M.out.popped (q:=q) (x:=x) ay.out;have aw:=hid am;have au:=hid J;have av:=hid al;obtain⟨B,a2,a3,aX,a4,aW,aY,d,f,o⟩:=J.frs;injection d with d;injection d with d;injection d with d _ _;subst d;obtain⟨⟨bb,f1,bc,f3,bd⟩,be⟩:=zQ f.box;have a5:=hid f;have a7:=hid o;have A:∀k,k≠G.b->(W.setCell ⟨G.b,3,none⟩ (.slice (some ⟨y,0,none⟩) q.length u)).heap[k]? =W.heap[k]?:=fun k A=>Below.heap_setCell W _ _ k A
 have F:∀i,(W.setCell ⟨G.b,3,none⟩ (.slice (some ⟨y,0,none⟩) q.length u)).cell? ⟨g,i,none⟩=W.cell? ⟨g,i,none⟩:=fun i=>World.cell?_of_block (A g af)
 have bK:=(F _).trans aP;have aV:=(F _).trans aQ;have H:(W.setCell ⟨G.b,3,none⟩ (.slice (some ⟨y,0,none⟩) q.length u)).heap.size=W.heap.size:=Id
 have bD:=Nat.le_of_eq H;have bF:=Nat.le_of_eq H.symm;have ar:=hid M.out.box;clear J al am f o A F H;go_upto_region 18 with(go_at_call 96;(refine(xI ar.out aZ a0 a1 I7).mono ?_);rintro e bY ⟨rfl,rfl⟩);generalize W.setCell ⟨G.b,3,none⟩ (.slice (some ⟨y,0,none⟩) q.length u)=W4 at *;have ad:g<W4.heap.size:=I7
 have bh:a<W4.heap.size:=I7
 have br:G.b<W4.heap.size:=I7
 go_upto_region 20 with(first
  | (go_at_call 97;(refine(mpush_at (m:=⟨m.s,q,{ c with pl:=c.pl+1 } :: r⟩) au.out x aw.out IJ).mono ?_);rintro e j ⟨rfl,⟨τ5,bX,C⟩,D,ah⟩
     have ag:j.heap[g]? =W4.heap[g]?:=ah.block g ad U5;have n1:=(show j.cell? ⟨g,c.pl*4+1,none⟩=W4.cell? ⟨g,c.pl*4+1,none⟩from World.cell?_of_block ag).trans aV;have bn:g<j.heap.size:=Nat.lt_of_lt_of_le ad D.size;obtain⟨B,a2,a3,aX,a4,aW,aY,d,f,o⟩:=C.frs;injection d with d;injection d with d;injection d with d _ _;subst d;obtain⟨⟨bN,bO,bP,bQ,bR⟩,bS⟩:=zQ f.box;have bi:=zB f.box;have L:=hid f;have ax:=hid o;have K:=hid C;have ap:=hid D
     clear C D ah f o ag))
 go_wp2_with (fail)
 go_end0
 have Z:OffX (fun k=>XD r.length (τ5 k)) j (j.setCell ⟨a,1,none⟩ (.int .i64 (t:Int))):=OffX.set (X:=fun k=>XD r.length (τ5 k)) j (.inl L.out.lab) 1 _;have ai:=K.out.top rfl Z (Ext.refl τ5 j) ax.out (L.out.place (p:=t) (K.out.below (X:=XD r.length) Z (xd_gl _).1));exact⟨rfl,⟨_,_,_,_,_,ai.1⟩,((aq.out.trans av.out).trans ap.out).trans ai.2⟩
theorem mnext_lzy_true_go{G:Gm}{τ:Nat->Lb}{w:World}{m:Vm}(aE:MW G τ w m){c:Fr}{r:List Fr}(R:m.cs=c::r){t:Nat}{q:List Int}{x:Int}(V:m.v=q++[x])(O:x≠0)(a3:q.length<=1000000000)(X:c.code[c.pl]? =some (.lzy true t)):
 Calls Tryz.prog 70 #[.pointer (some ⟨G.b,0,none⟩)] w (uX G w ⟨m.s,q,{ c with pl:=c.pl+1 } :: r⟩ (.tuple #[])):=by
 obtain⟨bu,bz,bq,bv,o⟩:=aE;obtain⟨a,g,n,aM,br,mp,bw,bh,bi,bj,bk,rfl,u,ba,a8,a1,a2,S,T,aC,aT,aD,⟨F,H,I,J⟩,P,Q⟩:=o.fetch R X;obtain⟨⟨ai,aj,E,ak,al,am,an,ao,ap,aq⟩,ar⟩:=zI o.box;obtain⟨⟨au,av,aw,ax,ay⟩,az⟩:=zQ u;have a7:=o.lt;have a6:=zB u;have a9:(c.pl:Int)<(n:Int):=I7
 have bb:IntKind.i64.wrap ((c.pl:Int)+1)=(c.pl:Int)+1:=Ie
 have aW:a≠g:=fun e=>S e.symm
 have aX:G.b≠a:=fun e=>aC e.symm
 have aY:G.b≠g:=fun e=>T e.symm
 have f:∀i,(w.setCell ⟨a,1,none⟩ (.int .i64 ((c.pl:Int)+1))).cell? ⟨g,i,none⟩=w.cell? ⟨g,i,none⟩:=fun i=>World.cell?_of_block (Below.heap_setCell w _ _ g S)
 have K:=(f (c.pl*4)).trans F;have L:=(f (c.pl*4+1)).trans H;have M:=(f (c.pl*4+2)).trans I;have N:=(f (c.pl*4+3)).trans J;obtain⟨rfl,rfl,rfl,rfl⟩:=aD;have aJ:=hid (show True from trivial);have aa:=hid P;have ab:=hid Q;have B:(w.setCell ⟨a,1,none⟩ (.int .i64 ((c.pl:Int)+1))).heap.size=w.heap.size:=Id
 have ah:=hid V;have bc:(x == 0)=false:=Qn
 clear V O;clear o R X P Q u f;go_enter Tryz.func70,Tryz.ntmps70;go_wp2_with (fail)
 go_quiet (fail)
 go_upto_region 3 with(fail);have D:=hid (aa.out.same (w':=(w.drewN nq).setCell ⟨a,1,none⟩ (.int .i64 ((c.pl:Int)+1))) rfl rfl rfl rfl);have ad:=hid (zq ab.out (w':=(w.drewN nq).setCell ⟨a,1,none⟩ (.int .i64 ((c.pl:Int)+1))) rfl rfl rfl rfl);have aA:((w.drewN nq).setCell ⟨a,1,none⟩ (.int .i64 ((c.pl:Int)+1))).cell? ⟨g,c.pl*4,none⟩=_:=K;have aB:((w.drewN nq).setCell ⟨a,1,none⟩ (.int .i64 ((c.pl:Int)+1))).cell? ⟨g,c.pl*4+1,none⟩=_:=L;have aN:((w.drewN nq).setCell ⟨a,1,none⟩ (.int .i64 ((c.pl:Int)+1))).cell? ⟨g,c.pl*4+2,none⟩=_:=M;have aO:((w.drewN nq).setCell ⟨a,1,none⟩ (.int .i64 ((c.pl:Int)+1))).cell? ⟨g,c.pl*4+3,none⟩=_:=N;have bd:((w.drewN nq).setCell ⟨a,1,none⟩ (.int .i64 ((c.pl:Int)+1))).heap.size<=w.heap.size:=Nat.le_of_eq B;have be:w.heap.size<=((w.drewN nq).setCell ⟨a,1,none⟩ (.int .i64 ((c.pl:Int)+1))).heap.size:=Nat.le_of_eq B.symm;clear K L M N B ai aj E ak al am an ao ap aq ar au av aw ax ay az F H I J;generalize(w.drewN nq).setCell ⟨a,1,none⟩ (.int .i64 ((c.pl:Int)+1))=W at *;have aZ:g<W.heap.size:=I7
 have a4:G.b<W.heap.size:=I7
 have aU:a<W.heap.size:=I7
 obtain⟨l,j,rfl,aF,aG,aH,Z,C,Y⟩:=D.out.popped (q:=q) (x:=x) ah.out;have aK:=hid Z;have af:=hid C;have ag:=hid Y;obtain⟨E,bs,bt,bo,bx,bn,bp,d,z,U⟩:=C.frs;injection d with d;injection d with d;injection d with d _ _;subst d;obtain⟨⟨aP,f1,aQ,f3,aR⟩,aS⟩:=zQ z.box;have aI:=hid z;have aL:=hid U;have p:∀k,k≠G.b->(W.setCell ⟨G.b,3,none⟩ (.slice (some ⟨l,0,none⟩) q.length j)).heap[k]? =W.heap[k]?:=fun k p=>Below.heap_setCell W _ _ k p
 have y:∀i,(W.setCell ⟨G.b,3,none⟩ (.slice (some ⟨l,0,none⟩) q.length j)).cell? ⟨g,i,none⟩=W.cell? ⟨g,i,none⟩:=fun i=>World.cell?_of_block (p g T)
 have bl:=(y _).trans aA;have bm:=(y _).trans aB;have A:(W.setCell ⟨G.b,3,none⟩ (.slice (some ⟨l,0,none⟩) q.length j)).heap.size=W.heap.size:=Id
 have bf:=Nat.le_of_eq A;have bg:=Nat.le_of_eq A.symm;have ae:=hid D.out.box;clear C Y Z z U p y A;go_upto_region 18 with(go_at_call 96;(refine(xI ae.out aF aG aH I7).mono ?_);rintro e bA ⟨rfl,rfl⟩);generalize W.setCell ⟨G.b,3,none⟩ (.slice (some ⟨l,0,none⟩) q.length j)=W4 at *;have a0:g<W4.heap.size:=I7
 have aV:a<W4.heap.size:=I7
 have a5:G.b<W4.heap.size:=I7
 go_wp2_with (fail)
 go_end0
 exact⟨rfl,⟨_,_,_,_,_,af.out⟩,ad.out.trans ag.out⟩
theorem uy{G:Gm}{τ:Nat->Lb}{w:World}{m:Vm}(aU:MW G τ w m){c:Fr}{r:List Fr}(ab:m.cs=c::r){t:Nat}{q:List Int}{x:Int}(aj:m.v=q++[x])(V:x≠0)(bp:q.length<=1000000000)(ak:c.code[c.pl]? =some (.lzy false t)):
 Calls Tryz.prog 70 #[.pointer (some ⟨G.b,0,none⟩)] w (uX G w ⟨m.s,q++[x],{ c with pl:=t } :: r⟩ (.tuple #[])):=by
 obtain⟨bT,bW,bL,bU,z⟩:=aU;obtain⟨a,g,n,a8,bM,mp,bV,bG,bH,bI,bJ,rfl,E,bw,bu,bo,aS,ae,af,aR,bf,aT,⟨N,O,P,Q⟩,Y,aa⟩:=z.fetch ab ak;obtain⟨⟨az,aA,B,aB,aC,aD,aE,aF,aG,aH⟩,aI⟩:=zI z.box;obtain⟨⟨aJ,aK,aL,aM,aN⟩,aO⟩:=zQ E;have bt:=z.lt;have bs:=zB E;have bv:(c.pl:Int)<(n:Int):=I7
 have bx:IntKind.i64.wrap ((c.pl:Int)+1)=(c.pl:Int)+1:=Ie
 have bj:a≠g:=fun e=>ae e.symm
 have bk:G.b≠a:=fun e=>aR e.symm
 have bl:G.b≠g:=fun e=>af e.symm
 have l:∀i,(w.setCell ⟨a,1,none⟩ (.int .i64 ((c.pl:Int)+1))).cell? ⟨g,i,none⟩=w.cell? ⟨g,i,none⟩:=fun i=>World.cell?_of_block (Below.heap_setCell w _ _ g ae)
 have R:=(l (c.pl*4)).trans N;have S:=(l (c.pl*4+1)).trans O;have T:=(l (c.pl*4+2)).trans P;have U:=(l (c.pl*4+3)).trans Q;obtain⟨rfl,rfl,rfl,rfl⟩:=aT;have a6:=hid (show True from trivial);have an:=hid Y;have ao:=hid aa;have I:(w.setCell ⟨a,1,none⟩ (.int .i64 ((c.pl:Int)+1))).heap.size=w.heap.size:=Id
 have ay:=hid aj;have bz:(x == 0)=false:=by simpa using V
 clear aj V;clear z ab ak Y aa E l;go_enter Tryz.func70,Tryz.ntmps70;go_wp2_with (fail)
 go_quiet (fail)
 go_upto_region 3 with(fail);have M:=hid (an.out.same (w':=(w.drewN nq).setCell ⟨a,1,none⟩ (.int .i64 ((c.pl:Int)+1))) rfl rfl rfl rfl);have aq:=hid (zq ao.out (w':=(w.drewN nq).setCell ⟨a,1,none⟩ (.int .i64 ((c.pl:Int)+1))) rfl rfl rfl rfl);have aP:((w.drewN nq).setCell ⟨a,1,none⟩ (.int .i64 ((c.pl:Int)+1))).cell? ⟨g,c.pl*4,none⟩=_:=R;have aQ:((w.drewN nq).setCell ⟨a,1,none⟩ (.int .i64 ((c.pl:Int)+1))).cell? ⟨g,c.pl*4+1,none⟩=_:=S;have a9:((w.drewN nq).setCell ⟨a,1,none⟩ (.int .i64 ((c.pl:Int)+1))).cell? ⟨g,c.pl*4+2,none⟩=_:=T;have ba:((w.drewN nq).setCell ⟨a,1,none⟩ (.int .i64 ((c.pl:Int)+1))).cell? ⟨g,c.pl*4+3,none⟩=_:=U;have bA:((w.drewN nq).setCell ⟨a,1,none⟩ (.int .i64 ((c.pl:Int)+1))).heap.size<=w.heap.size:=Nat.le_of_eq I;have bC:w.heap.size<=((w.drewN nq).setCell ⟨a,1,none⟩ (.int .i64 ((c.pl:Int)+1))).heap.size:=Nat.le_of_eq I.symm;clear R S T U I az aA B aB aC aD aE aF aG aH aI aJ aK aL aM aN aO N O P Q;generalize(w.drewN nq).setCell ⟨a,1,none⟩ (.int .i64 ((c.pl:Int)+1))=W at *;have bm:g<W.heap.size:=I7
 have bq:G.b<W.heap.size:=I7
 have bg:a<W.heap.size:=I7
 obtain⟨y,u,rfl,aZ,a0,a1,am,J,al⟩:=M.out.popped (q:=q) (x:=x) ay.out;have aw:=hid am;have au:=hid J;have av:=hid al;obtain⟨B,a2,a3,aX,a4,aW,aY,d,f,o⟩:=J.frs;injection d with d;injection d with d;injection d with d _ _;subst d;obtain⟨⟨bb,f1,bc,f3,bd⟩,be⟩:=zQ f.box;have a5:=hid f;have a7:=hid o;have A:∀k,k≠G.b->(W.setCell ⟨G.b,3,none⟩ (.slice (some ⟨y,0,none⟩) q.length u)).heap[k]? =W.heap[k]?:=fun k A=>Below.heap_setCell W _ _ k A
 have F:∀i,(W.setCell ⟨G.b,3,none⟩ (.slice (some ⟨y,0,none⟩) q.length u)).cell? ⟨g,i,none⟩=W.cell? ⟨g,i,none⟩:=fun i=>World.cell?_of_block (A g af)
 have bK:=(F _).trans aP;have aV:=(F _).trans aQ;have H:(W.setCell ⟨G.b,3,none⟩ (.slice (some ⟨y,0,none⟩) q.length u)).heap.size=W.heap.size:=Id
 have bD:=Nat.le_of_eq H;have bF:=Nat.le_of_eq H.symm;have ar:=hid M.out.box;clear J al am f o A F H;go_upto_region 18 with(go_at_call 96;(refine(xI ar.out aZ a0 a1 I7).mono ?_);rintro e bY ⟨rfl,rfl⟩);generalize W.setCell ⟨G.b,3,none⟩ (.slice (some ⟨y,0,none⟩) q.length u)=W4 at *;have ad:g<W4.heap.size:=I7
 have bh:a<W4.heap.size:=I7
 have br:G.b<W4.heap.size:=I7
 go_upto_region 20 with(first
  | (go_at_call 97;(refine(mpush_at (m:=⟨m.s,q,{ c with pl:=c.pl+1 } :: r⟩) au.out x aw.out IJ).mono ?_);rintro e j ⟨rfl,⟨τ5,bX,C⟩,D,ah⟩
     have ag:j.heap[g]? =W4.heap[g]?:=ah.block g ad U5;have n1:=(show j.cell? ⟨g,c.pl*4+1,none⟩=W4.cell? ⟨g,c.pl*4+1,none⟩from World.cell?_of_block ag).trans aV;have bn:g<j.heap.size:=Nat.lt_of_lt_of_le ad D.size;obtain⟨B,a2,a3,aX,a4,aW,aY,d,f,o⟩:=C.frs;injection d with d;injection d with d;injection d with d _ _;subst d;obtain⟨⟨bN,bO,bP,bQ,bR⟩,bS⟩:=zQ f.box;have bi:=zB f.box;have L:=hid f;have ax:=hid o;have K:=hid C;have ap:=hid D
     clear C D ah f o ag))
 go_wp2_with (fail)
 go_end0
 have Z:OffX (fun k=>XD r.length (τ5 k)) j (j.setCell ⟨a,1,none⟩ (.int .i64 (t:Int))):=OffX.set (X:=fun k=>XD r.length (τ5 k)) j (.inl L.out.lab) 1 _;have ai:=K.out.top rfl Z (Ext.refl τ5 j) ax.out (L.out.place (p:=t) (K.out.below (X:=XD r.length) Z (xd_gl _).1));exact⟨rfl,⟨_,_,_,_,_,ai.1⟩,((aq.out.trans av.out).trans ap.out).trans ai.2⟩
theorem mnext_lzy_false_go{G:Gm}{τ:Nat->Lb}{w:World}{m:Vm}(aE:MW G τ w m){c:Fr}{r:List Fr}(R:m.cs=c::r){t:Nat}{q:List Int}{x:Int}(V:m.v=q++[x])(O:x=0)(a3:q.length<=1000000000)(X:c.code[c.pl]? =some (.lzy false t)):
 Calls Tryz.prog 70 #[.pointer (some ⟨G.b,0,none⟩)] w (uX G w ⟨m.s,q,{ c with pl:=c.pl+1 } :: r⟩ (.tuple #[])):=by
 obtain⟨bu,bz,bq,bv,o⟩:=aE;obtain⟨a,g,n,aM,br,mp,bw,bh,bi,bj,bk,rfl,u,ba,a8,a1,a2,S,T,aC,aT,aD,⟨F,H,I,J⟩,P,Q⟩:=o.fetch R X;obtain⟨⟨ai,aj,E,ak,al,am,an,ao,ap,aq⟩,ar⟩:=zI o.box;obtain⟨⟨au,av,aw,ax,ay⟩,az⟩:=zQ u;have a7:=o.lt;have a6:=zB u;have a9:(c.pl:Int)<(n:Int):=I7
 have bb:IntKind.i64.wrap ((c.pl:Int)+1)=(c.pl:Int)+1:=Ie
 have aW:a≠g:=fun e=>S e.symm
 have aX:G.b≠a:=fun e=>aC e.symm
 have aY:G.b≠g:=fun e=>T e.symm
 have f:∀i,(w.setCell ⟨a,1,none⟩ (.int .i64 ((c.pl:Int)+1))).cell? ⟨g,i,none⟩=w.cell? ⟨g,i,none⟩:=fun i=>World.cell?_of_block (Below.heap_setCell w _ _ g S)
 have K:=(f (c.pl*4)).trans F;have L:=(f (c.pl*4+1)).trans H;have M:=(f (c.pl*4+2)).trans I;have N:=(f (c.pl*4+3)).trans J;obtain⟨rfl,rfl,rfl,rfl⟩:=aD;have aJ:=hid (show True from trivial);have aa:=hid P;have ab:=hid Q;have B:(w.setCell ⟨a,1,none⟩ (.int .i64 ((c.pl:Int)+1))).heap.size=w.heap.size:=Id
 have ah:=hid V;have bc:(x == 0)=true:=Qn
 clear V O;clear o R X P Q u f;go_enter Tryz.func70,Tryz.ntmps70;go_wp2_with (fail)
 go_quiet (fail)
 go_upto_region 3 with(fail);have D:=hid (aa.out.same (w':=(w.drewN nq).setCell ⟨a,1,none⟩ (.int .i64 ((c.pl:Int)+1))) rfl rfl rfl rfl);have ad:=hid (zq ab.out (w':=(w.drewN nq).setCell ⟨a,1,none⟩ (.int .i64 ((c.pl:Int)+1))) rfl rfl rfl rfl);have aA:((w.drewN nq).setCell ⟨a,1,none⟩ (.int .i64 ((c.pl:Int)+1))).cell? ⟨g,c.pl*4,none⟩=_:=K;have aB:((w.drewN nq).setCell ⟨a,1,none⟩ (.int .i64 ((c.pl:Int)+1))).cell? ⟨g,c.pl*4+1,none⟩=_:=L;have aN:((w.drewN nq).setCell ⟨a,1,none⟩ (.int .i64 ((c.pl:Int)+1))).cell? ⟨g,c.pl*4+2,none⟩=_:=M;have aO:((w.drewN nq).setCell ⟨a,1,none⟩ (.int .i64 ((c.pl:Int)+1))).cell? ⟨g,c.pl*4+3,none⟩=_:=N;have bd:((w.drewN nq).setCell ⟨a,1,none⟩ (.int .i64 ((c.pl:Int)+1))).heap.size<=w.heap.size:=Nat.le_of_eq B;have be:w.heap.size<=((w.drewN nq).setCell ⟨a,1,none⟩ (.int .i64 ((c.pl:Int)+1))).heap.size:=Nat.le_of_eq B.symm;clear K L M N B ai aj E ak al am an ao ap aq ar au av aw ax ay az F H I J;generalize(w.drewN nq).setCell ⟨a,1,none⟩ (.int .i64 ((c.pl:Int)+1))=W at *;have aZ:g<W.heap.size:=I7
 have a4:G.b<W.heap.size:=I7
 have aU:a<W.heap.size:=I7
 obtain⟨l,j,rfl,aF,aG,aH,Z,C,Y⟩:=D.out.popped (q:=q) (x:=x) ah.out;have aK:=hid Z;have af:=hid C;have ag:=hid Y;obtain⟨E,bs,bt,bo,bx,bn,bp,d,z,U⟩:=C.frs;injection d with d;injection d with d;injection d with d _ _;subst d;obtain⟨⟨aP,f1,aQ,f3,aR⟩,aS⟩:=zQ z.box;have aI:=hid z;have aL:=hid U;have p:∀k,k≠G.b->(W.setCell ⟨G.b,3,none⟩ (.slice (some ⟨l,0,none⟩) q.length j)).heap[k]? =W.heap[k]?:=fun k p=>Below.heap_setCell W _ _ k p
 have y:∀i,(W.setCell ⟨G.b,3,none⟩ (.slice (some ⟨l,0,none⟩) q.length j)).cell? ⟨g,i,none⟩=W.cell? ⟨g,i,none⟩:=fun i=>World.cell?_of_block (p g T)
 have bl:=(y _).trans aA;have bm:=(y _).trans aB;have A:(W.setCell ⟨G.b,3,none⟩ (.slice (some ⟨l,0,none⟩) q.length j)).heap.size=W.heap.size:=Id
 have bf:=Nat.le_of_eq A;have bg:=Nat.le_of_eq A.symm;have ae:=hid D.out.box;clear C Y Z z U p y A;go_upto_region 18 with(go_at_call 96;(refine(xI ae.out aF aG aH I7).mono ?_);rintro e bA ⟨rfl,rfl⟩);generalize W.setCell ⟨G.b,3,none⟩ (.slice (some ⟨l,0,none⟩) q.length j)=W4 at *;have a0:g<W4.heap.size:=I7
 have aV:a<W4.heap.size:=I7
 have a5:G.b<W4.heap.size:=I7
 go_wp2_with (fail)
 go_end0
 exact⟨rfl,⟨_,_,_,_,_,af.out⟩,ad.out.trans ag.out⟩
theorem eva_info:(Tryz.prog.info? 163).map (fun i=>(i.zero,i.size,i.bytes))=some (some (.map none),1,8):=by kernel_rfl
theorem emclone_any(m k:Nat)(f:ByteArray->Value)(w:World)(n:MapV w m k (.pointer none) f):
 Calls Tryz.prog 98 #[.map (some m)] w fun e w'=>e=.returned (.map (some w.heap.size))/\MapV w' w.heap.size k (.pointer none) f/\Below w.heap.size w w'/\w'.heap.size=w.heap.size+1:=by
 obtain⟨D,⟨b,a,g,F,i,c⟩,d⟩:=n;have j:=hid g;have o:=fun w=>run_eql_map_nil_sl (P:=Tryz.prog) w 163 _ _ (some m) Tryz.underlying163
 have l:=hid (show MapV (w.alloc (.map b a)) w.heap.size k (.pointer none) f from⟨D,⟨b,a,(MapKept.heap_alloc w _).1,F,i,c⟩,d⟩);clear g F i c d;go_enter Tryz.func98,Tryz.ntmps98;go_wp2;rw[run_callFunc_extern Tryz.func118 (by kernel_rfl) (by kernel_rfl) (by kernel_rfl) (e:=Extern.MapsClone.clone) (by kernel_rfl),run_maps_clone_sl w 163 j.out];simp only[Result.andThen];rw[Oper.upon_value];go_wp2;rw[run_typeAssert_map_sl _ 163 20 _ _ _ Tryz.underlying163];simp only[Result.andThen];rw[Oper.upon_value];go_wp2;go_ret;exact⟨rfl,l.out,(Below.refl _ w).alloc Zr _,zA _ _⟩
theorem MwI.enter{G:Gm}{τ:Nat->Lb}{w:World}{m:Vm}{Z ab aa:Value}{a:Nat}(u:MwI G τ w m Z ab (.pointer (some ⟨a,0,none⟩)) aa){c:Fr}{r:List Fr}{p t g:Value}{mp:Nat}{locs n:List Nat}(f:FrI G.B τ w r.length a p c t mp g locs n)(T:Frs G.B τ w p r)
 {W w8 w9:World} {v':Value} {mp':Nat} (i:Below w.heap.size w W) (q:W.grownBy w8 g.ownBlock) (U:xG W g v') (F:w8.ownsRow G.B 163 1 v' (c.o.length+1) (n.map (fun m=>Value.map (some m))++[.map (some mp)]))
 (l:Below (w8.setCell ⟨a,3,none⟩ v').heap.size (w8.setCell ⟨a,3,none⟩ v') w9) (ae:mp'=w8.heap.size) (R:MapV w9 mp' c.vs.length (.pointer none) (envF c.vs locs)):
 (∃τ,MW G τ (w9.setCell ⟨a,2,none⟩ (.map (some mp'))) ⟨m.s,m.v,{ c with o:=c.o++[c.vs.length] } :: r⟩)/\Below G.B w (w9.setCell ⟨a,2,none⟩ (.map (some mp'))):=by
 obtain⟨τ1,A,D⟩:=grow_lbl i.size U f.rol;have af:=i.size;have ag:W.heap.size<=w8.heap.size:=q.size;have ai:(w8.setCell ⟨a,3,none⟩ v').heap.size=w8.heap.size:=Id
 have ah:w8.heap.size<=w9.heap.size:=QS
 have E:=zB f.box;have I:∀b,v'.ownBlock=some b->b<w8.heap.size:=fun b j=>(qP F b j).1
 have K:OffX (fun k=>XE r.length (τ k)) w w8:=((OffX.of_below (fun k=>XE r.length (τ k)) i).trans (OffX.grown (X:=fun k=>g.ownBlock=some k) q fun k d=>d) fun k _ d=>.inr (f.rol k d))
 have L:OffX (fun k=>XE r.length (τ k)) w (w8.setCell ⟨a,3,none⟩ v'):=K.trans (OffX.set (X:=fun k=>k=a) w8 rfl 3 v') fun k _ (d:k=a)=>.inl (by rw[d];exact f.lab)
 have M:OffX (fun k=>XE r.length (τ k)) w w9:=L.trans (OffX.of_below (fun _=>False) l) fun k _ d=>d.elim
 have x:OffX (fun k=>XE r.length (τ k)) w (w9.setCell ⟨a,2,none⟩ (.map (some mp'))):=M.trans (OffX.set (X:=fun k=>k=a) w9 rfl 2 _) fun k _ (d:k=a)=>.inl (by rw[d];exact f.lab)
 have y:OffX (fun k=>XD r.length (τ k)) w (w9.setCell ⟨a,2,none⟩ (.map (some mp'))):=x.mono fun k _ d=>by
  rcases d with d|d
  .exact .inl d
  .exact .inr (.inl d)
 have P:=u.below (X:=XD r.length) y (xd_gl _).1;have V:g.ownBlock≠some a:=fun e=>by have:=f.rol a e;rw[f.lab]at this;cases this
 have Y:v'.ownBlock≠some a:=fun e=>by
  have:=D a e;rw[A a E,f.lab]at this;cases this
 have N:w8.heap[a]? =some (caO t c.pl mp g p):=((q.block a I7 fun e=>V e.symm).trans (i.block a E)).trans f.box;have O:w9.heap[a]? =some (caO t c.pl mp v' p):=(l.block a I7).trans (Lib.heap_setCell_same N _);have S:mp'≠a:=I7
 have z:Ext τ (lbl τ1 mp' (.vmap r.length (c.o.length+1))) w:=fun k d=>(uE τ1 _ I7).trans (A k d)
 have Q:=f.enter (τ':=lbl τ1 mp' (.vmap r.length (c.o.length+1))) (mp':=mp') (vo':=v') P x z (Lib.heap_setCell_same O _) ?_ (fun b j=>(uE τ1 _ (by have:=I b j;omega)).trans (D b j)) (uD _ _ _) (R.of_block (Below.heap_setCell w9 _ _ mp' S))
 .have H:=u.top rfl y z T Q
  exact⟨⟨_,_,_,_,_,H.1⟩,H.2⟩
 .have J:(n++[mp]).map (fun m=>Value.map (some m))=n.map (fun m=>Value.map (some m))++[.map (some mp)]:=by simp
  rw[J];refine zm F fun k d=>?_
  have ad:=I k d;have C:k≠a:=fun e=>Y (e ▸ d)
  exact((Below.heap_setCell w9 _ _ k C).trans (l.block k I7)).trans (Below.heap_setCell w8 _ _ k C)
theorem MwI.leave{G:Gm}{τ:Nat->Lb}{w:World}{m:Vm}{E H F:Value}{a:Nat}(j:MwI G τ w m E H (.pointer (some ⟨a,0,none⟩)) F){c:Fr}{r:List Fr}{C O:Value}{mp g i:Nat}{locs A:List Nat}{q:List Nat}{n:Nat}(t:c.o=q++[n])(d:FrI G.B τ w r.length a C c O mp (.slice (some ⟨g,0,none⟩) (q.length+1) i) locs A)(M:Frs G.B τ w C r){D:List Nat}{l:Nat}(p:A=D++[l]):
 MwI G τ ((w.setCell ⟨a,2,none⟩ (.map (some l))).setCell ⟨a,3,none⟩ (.slice (some ⟨g,0,none⟩) q.length i)) ⟨m.s,m.v,{ c with vs:=c.vs.take n,o:=q } :: r⟩ E H (.pointer (some ⟨a,0,none⟩)) F/\Below G.B w ((w.setCell ⟨a,2,none⟩ (.map (some l))).setCell ⟨a,3,none⟩ (.slice (some ⟨g,0,none⟩) q.length i)):=by
 have u:OffX (fun k=>XE r.length (τ k)) w ((w.setCell ⟨a,2,none⟩ (.map (some l))).setCell ⟨a,3,none⟩ (.slice (some ⟨g,0,none⟩) q.length i)):=
  (OffX.set (X:=fun k=>XE r.length (τ k)) w (.inl d.lab) 2 _).trans (OffX.set (X:=fun k=>XE r.length (τ k)) _ (.inl d.lab) 3 _) fun _ _ j=>j
 have x:=u.mono (Y:=fun k=>XD r.length (τ k)) fun k _ f=>by
  rcases f with f|f
  .exact .inl f
  .exact .inr (.inl f)
 have J:=j.below (X:=XD r.length) x (xd_gl _).1;have N:g≠a:=fun e=>by have:=d.rol g rfl;rw[e,d.lab]at this;cases this
 have L:D.length=q.length:=by have:=d.ml;rw[t,p]at this;simp at this;omega
 have z:=d.row;rw[p,show c.o.length=q.length+1 by rw[t];simp]at z;have hcut:=own_cut z (m:=q.length) I7;rw[Nat.mul_one,List.map_append,List.take_left' (by rw[List.length_map,L])]at hcut
 have K:=d.leave (vo':=.slice (some ⟨g,0,none⟩) q.length i) J u t p (Lib.heap_setCell_same (Lib.heap_setCell_same d.box _) _) (zm hcut fun k f=>by
  have f:g=k:=by injection f
  have y:k≠a:=fun e=>N (f.trans e)
  exact(Below.heap_setCell _ _ _ k y).trans (Below.heap_setCell _ _ _ k y)) (fun b I=>d.rol b I)
 exact j.top rfl x (Ext.refl τ w) M K
theorem mnext_ent{G:Gm}{τ:Nat->Lb}{w:World}{m:Vm}(a0:MW G τ w m){c:Fr}{r:List Fr}(ae:m.cs=c::r)(bz:c.o.length<=1000000000)(an:c.code[c.pl]? =some .ent):
 Calls Tryz.prog 70 #[.pointer (some ⟨G.b,0,none⟩)] w (uX G w ⟨m.s,m.v,{ c with pl:=c.pl+1,o:=c.o++[c.vs.length] } :: r⟩ (.tuple #[])):=by
 obtain⟨bP,bS,bM,bQ,y⟩:=a0;obtain⟨a,g,n,bb,bN,mp,bR,bI,bJ,bK,bL,rfl,H,bC,bx,bs,bt,ag,aX,aV,bn,aY,⟨R,S,T,U⟩,aa,ad⟩:=y.fetch ae an;obtain⟨⟨aD,aE,Q,aF,aG,aH,aI,aJ,aK,aL⟩,aM⟩:=zI y.box;obtain⟨⟨aN,aO,aP,aQ,aR⟩,aS⟩:=zQ H;have bw:=y.lt;have bv:=zB H;have bA:(c.pl:Int)<(n:Int):=I7
 have bD:IntKind.i64.wrap ((c.pl:Int)+1)=(c.pl:Int)+1:=Ie
 have bo:a≠g:=fun e=>ag e.symm
 have bp:G.b≠a:=fun e=>aV e.symm
 have bq:G.b≠g:=fun e=>aX e.symm
 have l:∀i,(w.setCell ⟨a,1,none⟩ (.int .i64 ((c.pl:Int)+1))).cell? ⟨g,i,none⟩=w.cell? ⟨g,i,none⟩:=fun i=>World.cell?_of_block (Below.heap_setCell w _ _ g ag)
 have V:=(l (c.pl*4)).trans R;have X:=(l (c.pl*4+1)).trans S;have Y:=(l (c.pl*4+2)).trans T;have Z:=(l (c.pl*4+3)).trans U;obtain⟨rfl,rfl,rfl,rfl⟩:=aY;have ba:=hid (show True from trivial);have au:=hid aa;have av:=hid ad;have L:(w.setCell ⟨a,1,none⟩ (.int .i64 ((c.pl:Int)+1))).heap.size=w.heap.size:=Id
 clear y ae an aa ad H l;go_enter Tryz.func70,Tryz.ntmps70;go_wp2_with (fail)
 go_quiet (fail)
 go_upto_region 3 with(fail);have D:=hid (au.out.same (w':=(w.drewN nq).setCell ⟨a,1,none⟩ (.int .i64 ((c.pl:Int)+1))) rfl rfl rfl rfl);have ax:=hid (zq av.out (w':=(w.drewN nq).setCell ⟨a,1,none⟩ (.int .i64 ((c.pl:Int)+1))) rfl rfl rfl rfl);have bc:((w.drewN nq).setCell ⟨a,1,none⟩ (.int .i64 ((c.pl:Int)+1))).cell? ⟨g,c.pl*4,none⟩=_:=V;have bd:((w.drewN nq).setCell ⟨a,1,none⟩ (.int .i64 ((c.pl:Int)+1))).cell? ⟨g,c.pl*4+1,none⟩=_:=X;have be:((w.drewN nq).setCell ⟨a,1,none⟩ (.int .i64 ((c.pl:Int)+1))).cell? ⟨g,c.pl*4+2,none⟩=_:=Y;have bf:((w.drewN nq).setCell ⟨a,1,none⟩ (.int .i64 ((c.pl:Int)+1))).cell? ⟨g,c.pl*4+3,none⟩=_:=Z;have bF:((w.drewN nq).setCell ⟨a,1,none⟩ (.int .i64 ((c.pl:Int)+1))).heap.size<=w.heap.size:=Nat.le_of_eq L;have bG:w.heap.size<=((w.drewN nq).setCell ⟨a,1,none⟩ (.int .i64 ((c.pl:Int)+1))).heap.size:=Nat.le_of_eq L.symm;clear V X Y Z L aD aE Q aF aG aH aI aJ aK aL aM aN aO aP aQ aR aS R S T U;generalize(w.drewN nq).setCell ⟨a,1,none⟩ (.int .i64 ((c.pl:Int)+1))=W at *;have br:g<W.heap.size:=I7
 have bu:G.b<W.heap.size:=I7
 have aU:a<W.heap.size:=I7
 have aW:=D.out.frs;obtain⟨Q,M,N,mp2,a9,a7,a8,k,p,al⟩:=aW;injection k with k;injection k with k;injection k with k _ _;subst k;obtain⟨Ar,x,A⟩:=zU p.row;have u:=hid A;obtain⟨⟨bg,f1,bh,f3,bi⟩,bj⟩:=zQ p.box;rw[A]at f3;have d:=hid p;have aB:=hid al;obtain⟨a6,ah,ap,aq,ar⟩:=info_parts eva_info;have t:=hid (And.intro ah (And.intro ap (And.intro aq ar)));have bk:G.B<=W.heap.size:=D.out.hB;have ab:Below W.heap.size W (W.alloc (.cells #[.map (some mp2)] 163)).drew:=((Below.refl W.heap.size W).alloc Zr _).drew;have aC:=hid (show(W.alloc (.cells #[.map (some mp2)] 163)).ownsRow G.B 163 1 (.slice Ar c.o.length x) c.o.length (a8.map fun m=>.map (some m))from A ▸ qR p.row ((Below.refl W.heap.size W).alloc Zr _) Zr);have aA:=hid (yO W [.map (some mp2)] 163);have C:=hid ab;have bH:(W.alloc (.cells #[.map (some mp2)] 163)).heap.size=W.heap.size+1:=zA _ _;clear A p al ah ap aq ar ab;go_wp2_with (fail)
 go_region_law (first
  | (refine qo rfl (.tmp 100) (.tmp 105) _ rfl G.B 163 a6 _ 1 8 Tryz.underlying165 t.out.1 t.out.2.1 t.out.2.2.1 t.out.2.2.2 rfl I7 (.slice Ar c.o.length x) c.o.length _ rfl (by exact qR aC.out Zb.drew Zr) ⟨W.heap.size,0,none⟩ 1 1 [.map (some mp2)] rfl rfl (by exact aA.out) Ig If I7 (by show G.B<=(W.alloc _).heap.size;omega) I7 ?_
     intro bO w8 J I am;obtain⟨f,j,rfl⟩:=zU J
     have z:w8.heap[a]? =some (caO N (c.pl+1) mp2 a9 M):=by
      have a1:(Value.slice Ar c.o.length x).ownBlock≠some a:=fun e=>by have:=d.out.rol a (u.out ▸ e);rw[d.out.lab]at this;cases this
      exact((I.block a (by show a<(W.alloc _).heap.size;omega) fun e=>a1 e.symm).trans (C.out.block a aU)).trans d.out.box
     obtain⟨⟨b5,b6,b7,b8,b9⟩,ca⟩:=zQ z;have bm:a<w8.heap.size:=zB z;have q:=hid (And.intro I (And.intro am J));have aw:=hid z
     clear J I am z))
 all_goals
  have ao:(w8.setCell ⟨a,3,none⟩ (.slice f (c.o.length+1) j)).heap[a]? =some (caO N (c.pl+1) mp2 (.slice f (c.o.length+1) j) M):=Lib.heap_setCell_same aw.out _;have a5:(w8.setCell ⟨a,3,none⟩ (.slice f (c.o.length+1) j)).heap.size=w8.heap.size:=Id
  have ak:MapV (w8.setCell ⟨a,3,none⟩ (.slice f (c.o.length+1) j)) mp2 c.vs.length (.pointer none) (envF c.vs a7):=by
   have ai:=d.out.map.2;have aZ:=ai.lt;have a2:(Value.slice Ar c.o.length x).ownBlock≠some mp2:=fun e=>by have:=d.out.rol mp2 (u.out ▸ e);rw[d.out.map.1]at this;cases this
   have a3:mp2≠a:=fun e=>by have:=d.out.map.1;rw[e,d.out.lab]at this;cases this
   exact ai.of_block ((Below.heap_setCell w8 _ _ mp2 a3).trans ((q.out.1.block mp2 (by show mp2<(W.alloc _).heap.size;omega) fun e=>a2 e.symm).trans (C.out.block mp2 aZ)))
  have E:=hid ao;have az:=hid ak;clear ao ak;go_upto_region 23 with(fail);generalize hW9:w8.setCell ⟨a,3,none⟩ (.slice f (c.o.length+1) j)=W9 at *;obtain⟨⟨bZ,b0,b1,b2,b3⟩,b4⟩:=zQ E.out;have aT:a<W9.heap.size:=zB E.out;have ay:=hid hW9;clear hW9
  go_wp2_with (first
   | (go_at_call 98;(refine(emclone_any mp2 c.vs.length _ W9 az.out).mono ?_);rintro e O ⟨rfl,aj,F,a4⟩
      have K:O.heap[a]? =some (caO N (c.pl+1) mp2 (.slice f (c.o.length+1) j) M):=(F.block a aT).trans E.out;obtain⟨⟨bT,bU,bV,bW,bX⟩,bY⟩:=zQ K;have bl:a<O.heap.size:=zB K;have P:=hid (And.intro aj F)
      clear aj F a4 K))
  go_end0
  have af:=D.out.enter d.out aB.out (w8:=w8) (w9:=O) (v':=.slice f (c.o.length+1) j) (mp':=w8.heap.size) C.out (by rw[u.out];exact q.out.1) (by rw[u.out];exact q.out.2.1) q.out.2.2 (by rw[ay.out];exact P.out.2) rfl (a5 ▸ P.out.1);exact⟨rfl,af.1,ax.out.trans af.2⟩
theorem mnext_lve{G:Gm}{τ:Nat->Lb}{w:World}{m:Vm}(aF:MW G τ w m){c:Fr}{r:List Fr}(Q:m.cs=c::r){q:List Nat}{k:Nat}(y:c.o=q++[k])(T:c.o.length<=1000000000)(Y:c.code[c.pl]? =some .lve):
 Calls Tryz.prog 70 #[.pointer (some ⟨G.b,0,none⟩)] w (uX G w ⟨m.s,m.v,{ c with pl:=c.pl+1,vs:=c.vs.take k,o:=q } :: r⟩ (.tuple #[])):=by
 obtain⟨bs,bw,bl,bt,u⟩:=aF;obtain⟨a,g,n,aI,bm,mp,bu,bf,bg,bh,bi,rfl,z,a6,a4,aZ,a0,S,aD,aB,aR,aE,⟨F,H,I,J⟩,O,P⟩:=u.fetch Q Y;obtain⟨⟨aj,ak,E,al,am,an,ao,ap,aq,ar⟩,au⟩:=zI u.box;obtain⟨⟨av,aw,ax,ay,az⟩,aA⟩:=zQ z;have a3:=u.lt;have a2:=zB z;have a5:(c.pl:Int)<(n:Int):=I7
 have bc:IntKind.i64.wrap ((c.pl:Int)+1)=(c.pl:Int)+1:=Ie
 have aT:a≠g:=fun e=>S e.symm
 have aV:G.b≠a:=fun e=>aB e.symm
 have aW:G.b≠g:=fun e=>aD e.symm
 have l:∀i,(w.setCell ⟨a,1,none⟩ (.int .i64 ((c.pl:Int)+1))).cell? ⟨g,i,none⟩=w.cell? ⟨g,i,none⟩:=fun i=>World.cell?_of_block (Below.heap_setCell w _ _ g S)
 have K:=(l (c.pl*4)).trans F;have L:=(l (c.pl*4+1)).trans H;have M:=(l (c.pl*4+2)).trans I;have N:=(l (c.pl*4+3)).trans J;obtain⟨rfl,rfl,rfl,rfl⟩:=aE;have aH:=hid (show True from trivial);have ab:=hid O;have ad:=hid P;have C:(w.setCell ⟨a,1,none⟩ (.int .i64 ((c.pl:Int)+1))).heap.size=w.heap.size:=Id
 have ba:q.length<=1000000000:=by rw[y]at T;simp at T;omega
 clear u Q Y O P z l;go_enter Tryz.func70,Tryz.ntmps70;go_wp2_with (fail)
 go_quiet (fail)
 go_upto_region 3 with(fail);have D:=hid (ab.out.same (w':=(w.drewN nq).setCell ⟨a,1,none⟩ (.int .i64 ((c.pl:Int)+1))) rfl rfl rfl rfl);have ae:=hid (zq ad.out (w':=(w.drewN nq).setCell ⟨a,1,none⟩ (.int .i64 ((c.pl:Int)+1))) rfl rfl rfl rfl);have aJ:((w.drewN nq).setCell ⟨a,1,none⟩ (.int .i64 ((c.pl:Int)+1))).cell? ⟨g,c.pl*4,none⟩=_:=K;have aK:((w.drewN nq).setCell ⟨a,1,none⟩ (.int .i64 ((c.pl:Int)+1))).cell? ⟨g,c.pl*4+1,none⟩=_:=L;have aL:((w.drewN nq).setCell ⟨a,1,none⟩ (.int .i64 ((c.pl:Int)+1))).cell? ⟨g,c.pl*4+2,none⟩=_:=M;have aM:((w.drewN nq).setCell ⟨a,1,none⟩ (.int .i64 ((c.pl:Int)+1))).cell? ⟨g,c.pl*4+3,none⟩=_:=N;have bd:((w.drewN nq).setCell ⟨a,1,none⟩ (.int .i64 ((c.pl:Int)+1))).heap.size<=w.heap.size:=Nat.le_of_eq C;have be:w.heap.size<=((w.drewN nq).setCell ⟨a,1,none⟩ (.int .i64 ((c.pl:Int)+1))).heap.size:=Nat.le_of_eq C.symm;clear K L M N C aj ak E al am an ao ap aq ar au av aw ax ay az aA F H I J;generalize(w.drewN nq).setCell ⟨a,1,none⟩ (.int .i64 ((c.pl:Int)+1))=W at *;have aY:g<W.heap.size:=I7
 have a1:G.b<W.heap.size:=I7
 have aS:a<W.heap.size:=I7
 have aC:=D.out.frs;obtain⟨E,bn,br,bk,bv,bj,Z,f,d,X⟩:=aC;injection f with f;injection f with f;injection f with f _ _;subst f;have ah:=hid y;have B:=d.row;have A:c.o.length=q.length+1:=by rw[y];simp
 obtain⟨t,p,x⟩:∃t p,Z=t++[p]:=by
  have j:=d.ml;rcases List.eq_nil_or_concat Z with rfl|⟨t,p,rfl⟩
  .have j:0=c.o.length:=j;omega
  .exact⟨t,p,List.concat_eq_append⟩
 have V:t.length=q.length:=by have j:=d.ml;rw[x,A]at j;simpa using j
 have U:({ c with pl:=c.pl+1 }:Fr).o.length=q.length+1:=A;rw[U]at B;obtain⟨gr,cr,rfl,bo,bp,bq,aa,_⟩:=yS B (Nat.succ_pos _);have aX:W.cell? ⟨gr,q.length,none⟩=some (.map (some p)):=aa q.length _ (by rw[x,List.map_append,List.getElem?_append_right (by rw[List.length_map,V];exact Nat.le_refl _),List.length_map,V,Nat.sub_self];rfl);obtain⟨⟨aN,f1,aO,f3,aP⟩,aQ⟩:=zQ d.box;have aG:gr≠a:=fun e=>by have:=d.rol gr rfl;rw[e,d.lab]at this;cases this
 have aU:a≠gr:=fun e=>aG e.symm
 have af:=hid d;have ai:=hid X;have ag:=hid x;have bb:IntKind.i64.wrap (((q.length+1 :Nat):Int)-1)=(q.length:Int):=Ie
 have a9:(q.length:Int)<((q.length+1 :Nat):Int):=I7
 have a7:q.length<q.length+1:=Nat.lt_succ_self _;have a8:q.length<=cr:=I7
 clear d X B x aa y A U;go_wp2_with (fail)
 go_region
 all_goals go_wp2_with (fail)
 all_goals go_end0
 all_goals
  have R:=D.out.leave (show({ c with pl:=c.pl+1 }:Fr).o=q++[k]from ah.out) af.out ai.out ag.out;exact⟨rfl,⟨_,_,_,_,_,R.1.drew⟩,ae.out.trans R.2.drew⟩
end Go.Proofs.YthcmenajdcbnnaaGreatDoor
