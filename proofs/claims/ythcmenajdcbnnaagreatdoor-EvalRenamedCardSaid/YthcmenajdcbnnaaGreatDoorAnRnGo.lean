import Derived.Test.YthcmenajdcbnnaaGreatDoorAnRnPk
import Derived.Test.YthcmenajdcbnnaaGreatDoorAnRnBk
import Derived.Laws.AppendOwnNone
import Derived.Test.YthcmenajdcbnnaaGreatDoorRows
import Derived.LaidMore
import Derived.Lay
import Derived.LaidSub
import Derived.SevenTiedAt
set_option linter.unusedSimpArgs false
set_option linter.unusedVariables false
set_option maxRecDepth 100000
set_option maxHeartbeats 99000000
namespace Go.Proofs.YthcmenajdcbnnaaGreatDoor
open Go.RowKit _root_.Go.Proofs.Tryz
variable{w W:C3}{v:C4}
def zdm(p:Pr)(e:Int)(f:Nat)(w:C3)(x:Ending)(w':C3):Prop:=
 ∃a c b d,x=.returned (.tuple #[.agg #[.slice a p.wa.length c,.slice b p.funcs.length d],(e:Int),((f:Int):Int)])/\Cx w w'/\BP w.heap.size w' p (.agg #[.slice a p.wa.length c,.slice b p.funcs.length d])
theorem QQ(s:C2){p:Pr}{e:Int}{d:Nat}(l:yc s=(p,e,d)):Cy 13 #[s] w (zdm p e d w):=
 (v7 s w).mono fun x w' ⟨k,_,_,c,a,b⟩=>by
   rw[l]at c a b;obtain⟨f,i,rfl,_⟩:=a.form;obtain⟨g,j,rfl,_⟩:=b.form;exact⟨f,i,g,j,c,k,_,_,rfl,a,b⟩
theorem KU(s:C2):Cy 13 #[s] w fun x w'=>∃p e a,yc s=(p,e,a)/\zdm p e a w x w':=by
 obtain⟨p,e,a,b⟩:∃p e a,yc s=(p,e,a):=⟨_,_,_,rfl⟩
 exact(QQ s b).mono fun _ _ c=>⟨p,e,a,b,c⟩
def wH(w:C3)(x:Ending)(w':C3):Prop:=
 ∃p a c b d,x=.returned (.agg #[.slice a p.wa.length c,.slice b p.funcs.length d])/\Cx w w'/\eT w'.heap.size p (.slice a p.wa.length c) (.slice b p.funcs.length d) w'/\e4 p
section
variable {B:Nat}{w W:C3}
theorem Rb.good0(e:Rb w W)(f:d6 B w)(b:B<=w.heap.size)(c d:C4):wH w (.returned (.agg #[(),()])) (uZ W w.heap.size c d):=by
 have a:=e.nest c d;exact⟨xT,none,0,none,0,rfl,a,(zdc (f.below (a.mono b)) (Dr b a.size)).mono (Dr b a.size) Zr,VY⟩
theorem Rb.good1(j:Rb w W)(o:d6 B w)(f:B<=w.heap.size){p:Pr}{a b:Option Addr}{c d:Nat}{L:Nat}(m:BP L W p (.agg #[(a,p.wa.length,c),(b,p.funcs.length,d)]))(i:w.heap.size<L)(n:e4 p):wH w (.returned (.agg #[(a,p.wa.length,c),(b,p.funcs.length,d)])) (uZ W w.heap.size (.slice a p.wa.length c) (.slice b p.funcs.length d)):=by
 have e:=j.nest (.slice a p.wa.length c) (.slice b p.funcs.length d);obtain⟨k,l⟩:=HM (m.keep (zK.nest2 (g:=w.heap.size) i (.slice a p.wa.length c) (.slice b p.funcs.length d)) (D5 i));exact⟨p,a,c,b,d,rfl,e,⟨Dy _,(o.below (e.mono f)).mono (Dr f e.size),k,l⟩,n⟩
end
theorem vP.hole(g:vP w v)(o a:Obj):oW w.heap.size (w.heap.size+1) ((w.alloc o).alloc a) v:=by
 obtain⟨f,n,c,rfl,t,j⟩:=g;refine⟨f,n,c,rfl,t,fun k s=>?_⟩;obtain⟨b,e,rfl,d,r⟩:=j O;obtain⟨z,i,l,m⟩:=r k s;have q:Cx w ((w.alloc o).alloc a):=(Zb.alloc Zr o).alloc Ur a;exact⟨b,e,rfl,d,O,z,i,l,(q.cell (p:=(b,e+k)) d).trans m⟩
theorem zck(h:vP w v)(o:Obj):eX (w.heap.size+1) w.heap.size v 0 ((w.alloc o).alloc (mkO v 0)):=
 ⟨by have:=Dq (w.alloc o) (mkO v 0);rw[zA]at this;exact this,h.hole _ _,Uq⟩
theorem KV{m:Nat}(c:m<=3){b d a:Nat}{vs e:C2}{D:Int}{lp:Bool}(g:D=(m:Int))(i:eX b d v a w)(_:a<=100000000)(j:vs.size=1)(k:e.size=1):
 Cy 38 #[(b,0),vs,e,(D:Int),.bool lp] w (yI 800000 800001 b d v a w):=by
 have r:=MP m c;have q:=MQ m c;exact((zcj m).1.call c g i O j k).mono fun _ _ ⟨s,f,l,_,o,_,p,n⟩=>⟨s,f,l,O,o,O,p,n⟩
theorem WR(B:Nat)(v:C4)(w:C3)(I:d6 B w)(E:B<=w.heap.size)(J:vP w v):Cy 20 #[v] w (wH w):=by
 have C:=U I;have Q:=U (zck J eM);have s:=U ((Rb.start w).alloc (mkO v 0));clear I;obtain⟨L,n,c,rfl,_,Y⟩:=J;clear Y;go_enter func20,ntmps20;go_upto_region 2 with fail;generalize(w.alloc eM).alloc (mkO (.slice L n c) 0)=W0 at *
 go_upto_region 6 with(first
  | (go_at_call 38;(with_reducible refine(KV (m:=2) (D:=2) Up Up Q.o O Up Up).mono ?_);rintro e _ ⟨_,_,rfl,_,_,_,b,a⟩
     have R:=U a;have t:=U (s.o.off b Jz O)
     clear b a)
  | (go_at_call 39;(with_reducible refine(uG (m:=2) (D:=2) Up Up R.o O Up Up).mono ?_);rintro e _ ⟨_,_,rfl,_,_,_,b,a⟩
     have S:=U a;have u:=U (t.o.off b (by have:=t.o.lt;omega) O)
     clear b a)
  | (go_at_call 38;(with_reducible refine(KV (m:=1) (D:=1) Up Up S.o O Up Up).mono ?_);rintro e _ ⟨_,_,rfl,_,_,_,b,a⟩
     have T:=U a;have x:=U (u.o.off b (by have:=u.o.lt;omega) O)
     clear b a)
  | (go_at_call 40;(with_reducible refine(lP (m:=2) (D:=2) Up Up T.o O Up Up).mono ?_);rintro e _ ⟨_,_,rfl,_,_,_,b,a⟩
     have V:=U a;have y:=U (x.o.off b (by have:=x.o.lt;omega) O)
     clear b a)
  | (go_at_call 38;(with_reducible refine(KV (m:=3) (D:=3) Up Up V.o O Up Up).mono ?_);rintro e _ ⟨_,_,rfl,_,_,_,b,a⟩
     have W:=U a;have z:=U (y.o.off b (by have:=y.o.lt;omega) O)
     clear b a)
  | (go_at_call 39;(with_reducible refine(uG (m:=2) (D:=2) Up Up W.o O Up Up).mono ?_);rintro e Z ⟨_,_,rfl,_,_,_,b,a⟩
     have aa:=U a;have A:=U (z.o.off b (by have:=z.o.lt;omega) O)
     clear b a))
 have ad:=A.o.lt
 go_upto_region 7 with(go_at_call 13;(with_reducible refine(KU _).mono ?_);rintro e r ⟨p,k,_,F,d,g,f,i,rfl,q,G⟩
                       have X:=U (iR F);have M:=U q;have N:=U G;have ae:Z.heap.size<=r.heap.size:=q.size
                       clear F q G)
 have P:=U (N.o.keep (zK.wb (Zb.alloc Zr (qW d p.wa.length g f p.funcs.length i))) Zr);have j:=U ((A.o.below M.o).alloc (qW d p.wa.length g f p.funcs.length i));have K:=Dq r (qW d p.wa.length g f p.funcs.length i);generalize r.alloc (qW d p.wa.length g f p.funcs.length i)=W8 at *;obtain⟨⟨_,_⟩,_⟩:=xp K;obtain⟨⟨_,_⟩,_⟩:=j.o.own;clear K;by_cases H:k=0
 .subst H
  obtain⟨l,f1⟩:=j.o.read (.slice d p.wa.length g) (.slice f p.funcs.length i);go_wp2_with fail;refine bodyPost_ret (v:=.agg #[(d,p.wa.length,g),(f,p.funcs.length,i)]) (by simp[results,results20,go_sem,l,f1]) rfl ?_;exact j.o.good1 C.o E P.o O X.o
 .have ab:(k == 0)=false:=by simpa using H
  obtain⟨l,f1⟩:=j.o.read (.slice none 0 0) (.slice none 0 0);go_wp2_with fail;refine bodyPost_ret (v:=.agg #[(),()]) (by simp[results,results20,go_sem,l,f1]) rfl ?_;exact j.o.good0 C.o E _ _
theorem WS{l:List Int}(a:eJ l)(n:Nat):eJ (l.take n):=fun m b=>a m (List.mem_of_mem_take b)
theorem lQ.drewN{B:Nat}{l:List Int}(a:lQ B w v l)(b:B<=w.heap.size):lQ B w.drew v l:=a.below (Zb.drew.mono b) Zr
theorem zak{p q:Pr}(a:lO p=(q,0))(g:e4 p)(c:List Int)(b:Int):vE q c b=vE p c b:=by
 unfold lO at a;split at a
 .rename_i d
  injection a with e _;subst e;exact ZV d (by rw[HU g.cn d]) c b
 .injection a with _ f
  exact absurd f Up
theorem x6(B:Nat)(v ar:C4)(n:Nat)(f:List Int)(w:C3)(ao:d6 B w)(C:B<=w.heap.size)(ap:vP w v)(E:lQ B w ar f)(ah:eJ f)(_:n<=255):Cy 8 #[v,ar,.int .u8 n] w (Cv true w):=by
 obtain⟨_,_,rfl,_⟩:=E.1.form;have X:=U ao;have aN:=U ap;have aA:=U E;have V:=U (WS ah 10);clear ao ap E ah;have aW:IntKind.i64.wrap (n:Int)=n:=IntWalk.i64_in _ O;have aV:IntKind.i64.wrap (4*(n:Int))=4*n:=IntWalk.i64_in _ O;go_enter func8,ntmps8
 go_upto_region 5 with(first
  | (go_at_call 15;(with_reducible refine(KP B w X.o C).mono ?_);rintro e M ⟨rfl,a⟩
     have au:=U a;have aM:=U (X.o.below (a.mono C));have aO:=U (aN.o.below a);have aR:w.heap.size<=M.heap.size:=a.size
     clear a)
  | (go_at_call 20;(with_reducible refine(WR B v M aM.o O aO.o).mono ?_);rintro e c ⟨p,N,ad,P,ae,rfl,a,b,am⟩
     obtain⟨i,s,t,u⟩:=b.box;have S:=U u;have Y:=U s;have av:=U (au.o.trans ((a.trans (i.mono a.size)).mono aR));have x:=U am;have aY:M.heap.size<=c.heap.size:=a.size;have K:=t
     clear a b i s t u am))
 obtain⟨q,k,aj⟩:∃q k,lO p=(q,k):=⟨_,_,rfl⟩
 have A:=U aj;clear aj;generalize c.alloc (qW N p.wa.length ad P p.funcs.length ae)=W2 at *;have aZ:=Dt K;have a0:=Dt K.symm;clear K;obtain⟨⟨Z,aa⟩,ab⟩:=zD Y.o;have aU:c.heap.size<W2.heap.size:=O
 go_upto_region 6 with(go_at_call 24;(with_reducible refine(S.o.rren x.o A.o).mono ?_);rintro e l ⟨Q,af,R,ag,rfl,a,b⟩
                       obtain⟨i,s,t,u⟩:=b.box;have T:=U u;have aP:=U s;have z:=U ((av.o.trans (a.mono O)).trans (i.mono Xh));have aC:=U ((S.o.below a).below (i.mono Zr));have aQ:=U ((i.block c.heap.size Xh).trans ((a.block c.heap.size O).trans Y.o));have a1:W2.heap.size<=l.heap.size:=a.size;have L:=t
                       clear a b i s t u)
 generalize l.alloc (qW Q q.wa.length af R q.funcs.length ag)=W3 at *;have a2:=Dt L;have a3:=Dt L.symm;clear L Z aa ab;by_cases ai:k=0
 case neg=>
  have aT:(k != 0)=true:=by simpa using ai
  go_quiet (fail)
  go_wp2_with fail;go_ret;exact⟨zC rfl,L3 z.o _⟩
 case pos=>
  subst ai;obtain⟨an,_⟩:=WM A.o x.o;have aL:=U an;obtain⟨r,F⟩:=Cz (vE p (f.take 10) (4*(n:Int)));have aI:=U F;have aH:=C0 (vE q (f.take 10) (4*(n:Int))=r) ((zak A.o x.o _ _).trans F);clear F an;have W:=U (aA.o.below (z.o.mono C) Zr);have J:l.heap.size<W3.heap.size:=O
  have I:c.heap.size<W3.heap.size:=O
  obtain⟨⟨Z,aa⟩,ab⟩:=zD aQ.o;obtain⟨⟨_,_⟩,_⟩:=zD aP.o;have aD:=U (aC.o.below Zb.drew);have aS:=U (T.o.below Zb.drew)
  go_region_held3 (fun w'=>w'.cell? (c.heap.size,0)=some (.slice N p.wa.length ad)/\w'.cell? (c.heap.size,1)=some (.slice P p.funcs.length ae)/\w'.cell? (l.heap.size,0)=some (.slice Q q.wa.length af)/\w'.cell? (l.heap.size,1)=some (.slice R q.funcs.length ag))
   (first
     |(go_split_ands;refine⟨?_,?_,?_,?_⟩ <;>(first|assumption|(rw[y _ _ I];assumption)|(rw[y _ _ J];assumption)|(rw[aq _ _ I,y _ _ I];assumption)|(rw[aq _ _ J,y _ _ J];assumption)))
     |go_keep)
   (first
     | (go_at_call 18
        (with_reducible refine(MA B f _ W3.drew (W.o.drewN O)).mono ?_)
        rintro e _ ⟨_,rfl,ak,rfl⟩;have aJ:=U ak
        clear ak)
     | (go_at_call 17
        (with_reducible refine(hM c.heap.size p (f.take 10) (4*(n:Int)) _ _ _ W3.drew aD.o x.o (aJ.o.below Zb O) V.o O O).mono ?_)
        rintro e m ⟨_,rfl,G,d⟩;rw[aI.o]at G;have d:Cx W3 m:=Zb.drew.trans d;have y:∀g k,g<W3.heap.size->m.cell? ⟨g,k,none⟩=W3.cell? ⟨g,k,none⟩:=fun g k b=>d.cell (p:=⟨g,k,none⟩) b
        have aE:=U G;have aw:=U d;have az:=U (T.o.below d);have aB:=U (W.o.below (d.mono O) Zr);have a4:=d.size
        clear G d)
     | (go_at_call 18
        (with_reducible refine(MA B f _ m aB.o).mono ?_)
        rintro e _ ⟨_,rfl,al,rfl⟩;have aK:=U al
        clear al)
     | (go_at_call 17
        (with_reducible refine(hM l.heap.size q (f.take 10) (4*(n:Int)) _ _ _ m az.o aL.o (aK.o.below Zb O) V.o O O).mono ?_)
        rintro e w8 ⟨_,rfl,H,j⟩;rw[aH.o]at H;have aq:∀g k,g<W3.heap.size->w8.cell? ⟨g,k,none⟩=m.cell? ⟨g,k,none⟩:=fun g k b=>j.cell (p:=⟨g,k,none⟩) (by show g<m.heap.size;omega)
        have aF:=U H;have aG:=U (aE.o.below j j.size);have ax:=U j;have a5:=j.size
        clear H j)
     | (go_at_call 16
        (with_reducible refine(WN w8.heap.size r _ _ w8 Zr aG.o aF.o).mono ?_)
        rintro e w9 ⟨rfl,D⟩;have aX:∀g k,g<W3.heap.size->w9.cell? ⟨g,k,none⟩=w8.cell? ⟨g,k,none⟩:=fun g k b=>D.cell (p:=⟨g,k,none⟩) (by show g<w8.heap.size;omega)
        have ay:=U D
        clear D))
  go_wp2_with fail;go_ret;exact⟨rfl,((z.o.trans (aw.o.mono O)).trans (ax.o.mono O)).trans (ay.o.mono O)⟩
def zdn(v:C4):Prop:=∀n c,v=.slice none n c->c=0
end Go.Proofs.YthcmenajdcbnnaaGreatDoor
namespace Go.Proofs.YthcmenajdcbnnaaGreatDoor
open _root_.Go.Proofs.Tryz
open Go.ChangeShapes Go.WideShapes Go.ChangeAt Go.RowKit
variable{w W:C3}{v:C4}
theorem own:ownKnob Tryz.prog.godebug=none:=by kernel_rfl
theorem MR:laidOutB Tryz.prog=true:=by kernel_rfl
abbrev yJ:List (String × DataW Unit):=[("boxhedge/wrap.rows",Rows.laid_boxhedge_wrap_rows)]
theorem WU(h:laidMetH Tryz.prog yJ W):laidMet Tryz.prog yJ W:=by
 rw[MakeChecks.laidMetH_plain _ _ _ (by kernel_rfl)]at h;exact h
theorem zdo:Tryz.prog.globalNamed "boxhedge/wrap.rows" =some 0:=by kernel_rfl
theorem zdp:(Tryz.prog.globals[0]?).map (·.type)=some 233:=by kernel_rfl
theorem H4:Tryz.prog.cellsOf 230=2:=by kernel_rfl
theorem WV:Tryz.prog.cellsOf 9=1:=by kernel_rfl
theorem WW:Tryz.prog.cellsOf 3=1:=by kernel_rfl
theorem KW{s:C2}{l:List UInt8}(h:s.data.toList=l):s=⟨l.toArray⟩:=by
 subst h;cases s;simp
theorem QR{W:C3}{l:Nat}{cs:List C4}{b:List UInt8}{n:Int}{p:List MemPlace}
 (o:DataW.trod (fun _=>()) Tryz.prog W 0 (fun _=>true) false l 230 cs=some (.agg [.lit (.string b),.lit (.int .i64 n)],p)):
 cs[0]?=some (.string ⟨b.toArray⟩)/\cs[1]?=some (.int .i64 n):=by
 obtain⟨_,_,m,g,f,d,e⟩:=trod_struct2 underlying230 o;rw[WV]at d;rw[WW]at e;obtain⟨s,a,i,_⟩:=DataW.trod_string underlying9 d;obtain⟨k,c,j,_⟩:=DataW.trod_int underlying3 e;subst i j;simp only[Prod.mk.injEq,DataW.agg.injEq,Y7,DataW.lit.injEq,Lit.string.injEq,Lit.int.injEq,true_and,and_true]at g;obtain⟨⟨r,q⟩,_⟩:=g;rw[H4]at f
 match cs,f with
 |[c0,c1],_=>
   simp at a c;subst a c q;refine⟨?_,rfl⟩;rw[KW r.symm];rfl
theorem DT(n:laidMet Tryz.prog [("boxhedge/wrap.rows",Rows.laid_boxhedge_wrap_rows)] W):Tab W:=by
 obtain⟨ps,⟨_,_,a,_,_,_,f,r,s,o,_,_⟩,_,_⟩:=n;obtain rfl:=Cr (zdo.symm.trans f);obtain rfl:=Cr (zdp.symm.trans r);obtain⟨v,_,rfl,u,_,_,q⟩:=DataW.trod_array underlying233 o;intro k _
 have e:∀j,W.cell? ⟨0,j,none⟩=a.toList[j]?:=by
  intro j;have:=World.var?_cell f s j;simpa using this
 have b:=q k O;rw[H4]at b
 have i:(v.map (·.1))[k]?=some (.agg [.lit (.string (zcs.getD k [])),.lit (.int .i64 (zct.getD k 0))]):=by
  have c:=congrArg Prod.fst u;unfold Rows.laid_boxhedge_wrap_rows at c;simp only[DataW.agg.injEq]at c;rw[<-c];obtain rfl|rfl|rfl|rfl|rfl|rfl|rfl|rfl|rfl|rfl|rfl|rfl|rfl|rfl|rfl|rfl|rfl|rfl|rfl|rfl|rfl|rfl|rfl|rfl|rfl|rfl|rfl|rfl|rfl:k=0\/k=1\/k=2\/k=3\/k=4\/k=5\/k=6\/k=7\/k=8\/k=9\/k=10\/k=11\/k=12\/k=13\/k=14\/k=15\/k=16\/k=17\/k=18\/k=19\/k=20\/k=21\/k=22\/k=23\/k=24\/k=25\/k=26\/k=27\/k=28:=O
  all_goals rfl
 rw[Yl]at i;obtain⟨x,t,g⟩:=Option.map_eq_some_iff.1 i;rw[t]at b;obtain⟨d,p⟩:=x;simp only at g;subst g;obtain⟨l,m⟩:=QR b;rw[e,e];refine⟨?_,?_⟩
 .have:a.toList[k*2]?=((a.toList.drop (k*2)).take 2)[0]?:=by simp[List.getElem?_drop]
  rw[this,l];rfl
 .have:a.toList[k*2+1]?=((a.toList.drop (k*2)).take 2)[1]?:=by simp[List.getElem?_drop]
  rw[this,m];rfl
theorem H5(b:laidMetH Tryz.prog yJ W):d6 W.heap.size W:=by
 have a:=DT (WU b);exact⟨block_lt_of_cell (a 0 O).1,a⟩
theorem QS(os:Os)(tc:Array C4):laidMetH Tryz.prog yJ ((World.laidAll Tryz.prog os yJ).forCall (fun _ _=>0) ⟨#[],tc,[]⟩).memory:=by
 rw[MakeChecks.laidMetH_plain _ _ _ (by kernel_rfl)];exact laidMet_laidAll _ (by kernel_rfl) (by kernel_rfl)
theorem WX{H:Type}{enc:TypeId×C4->H}{base:Nat}{d:DataW H}{p:List MemPlace}(r:DataW.Trod enc Tryz.prog W 0 (fun _=>true) true 22 v d p)(w:Value.okWide Tryz.prog W .any base 22 v):vP W v:=by
 obtain⟨_,GH,g,rfl⟩:=okWide_slice underlying22 w;obtain⟨_,s⟩:=r;rcases open_ints underlying22 underlying5 (by kernel_rfl) s with⟨a,_⟩|⟨x,l,c,q,a,_,_,t,y,_,m,o⟩
 .simp[Value.cells]at a
  obtain⟨rfl,rfl,rfl⟩:=a;exact⟨none,0,0,rfl,O,fun n=>absurd n O⟩
 .simp[Value.cells]at a
  obtain⟨rfl,rfl,rfl⟩:=a;have A:q.length=g:=by simpa using y
  refine⟨_,GH,g,rfl,by unfold maxLen at t;omega,fun n=>?_⟩;obtain⟨b,f,z⟩:=x;have e:=m 0 O;have u:z=none:=by simpa[Addr.add]using World.cell?_spot e
  subst u;have j:∀k,(⟨b,f,none⟩:Addr).add k=⟨b,f+k,none⟩:=fun k=>Jh
  refine⟨b,f,rfl,?_,fun k _=>?_⟩
  .rw[j]at e
   exact block_lt_of_cell e
  .have i:=m k O
   rw[j]at i;exact⟨q.getD k 0,(range_u8 o k).1,(range_u8 o k).2,i⟩
theorem zal{H:Type}{enc:TypeId×C4->H}{base:Nat}{d:DataW H}{p:List MemPlace}(z:DataW.Trod enc Tryz.prog W 0 (fun _=>true) true 23 v d p)(I:Value.okWide Tryz.prog W .any base 23 v)(L:∀n∈d.weights Tryz.prog 23,n<=reachBytes):∃l,lQ W.heap.size W v l/\eJ l/\zdn v:=by
 obtain⟨_,GH,q,rfl⟩:=okWide_slice underlying23 I;obtain⟨_,D⟩:=z;rcases open_ints underlying23 underlying3 (by kernel_rfl) D with⟨a,_⟩|⟨x,l,c,f,a,_,_,_,K,C,w,J⟩
 .simp[Value.cells]at a
  obtain⟨rfl,rfl,rfl⟩:=a;exact⟨[],MH _ _,MI,fun n c e=>by injection e with _ _ r;exact r.symm⟩
 .simp[Value.cells]at a
  obtain⟨rfl,rfl,rfl⟩:=a;have P:f.length=q:=by simpa using K
  have m:(f.take GH).length=GH:=Kc
  obtain⟨B,_⟩:=Prod.mk.inj C;subst B;have y:=L (((lits (H:=H) .i64 (f.take GH)).length+(lits (H:=H) .i64 (f.drop GH)).length)*Tryz.prog.bytesOf 3) (by simp[DataW.weights,underlying23]);rw[show Tryz.prog.bytesOf 3=8 by kernel_rfl]at y;simp only[lits,Yd,Yc,Yq,reachBytes]at y;refine⟨f.take GH,⟨⟨some x,q,by rw[m],by rw[m];omega,fun F=>?_⟩,fun _ n c e=>by injection e with _ _ r;omega⟩,fun n E=>bounds_i64 (J n (List.mem_of_mem_take E)),fun n c e=>Kh⟩;rw[m]at F;obtain⟨b,o,M⟩:=x;have g:=w 0 O;have G:M=none:=by simpa[Addr.add]using World.cell?_spot g
  subst G;have u:∀k,(⟨b,o,none⟩:Addr).add k=⟨b,o+k,none⟩:=fun k=>Jh
  rw[u]at g;refine⟨b,o,rfl,B7 (block_lt_of_cell g) _ _ fun j t i=>?_⟩;have N:=(List.getElem?_eq_some_iff.1 i).1;rw[Y5,Dm O]at i;have s:=w j O;rw[u,Yk,i]at s;exact s
theorem zcl{a:Int}(h:(Lit.int .u8 a).wf=true):∃n:Nat,a=n/\n<=255:=by
 obtain⟨_,_⟩:=bounds_u8 h;exact⟨a.toNat,O,O⟩
