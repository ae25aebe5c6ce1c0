import Derived.Test.YtjadgpiafjdnfaaGreatDoorAoErEq
import Derived.Test.YtjadgpiafjdnfaaGreatDoorAoTokRefC
import Derived.Laws.AppendOwnNone
import Derived.Test.YtjadgpiafjdnfaaGreatDoorRows
import Derived.LaidMore
import Derived.Lay
import Derived.LaidSub
import Derived.SevenTiedAt
set_option linter.unusedSimpArgs false
set_option linter.unusedVariables false
set_option maxRecDepth 100000
set_option maxHeartbeats 99000000
namespace Go.Proofs.YtjadgpiafjdnfaaGreatDoor
open Go.RowKit _root_.Go.Proofs.Tryz
variable{w W:C7}{v:C8}
def zc1(p:Pr)(e:Int)(f:Nat)(w:C7)(x:Ending)(w':C7):Prop:=
 ∃a c b d,x=.returned (.tuple #[.agg #[.slice a p.wa.length c,.slice b p.funcs.length d],(e:Int),((f:Int):Int)])/\C2 w w'/\EI w.heap.size w' p (.agg #[.slice a p.wa.length c,.slice b p.funcs.length d])
theorem QM(s:C6){p:Pr}{e:Int}{d:Nat}(l:yV s=(p,e,d)):C3 13 #[s] w (zc1 p e d w):=
 (wP s w).mono fun x w' ⟨k,_,_,c,a,b⟩=>by
   rw[l]at c a b;obtain⟨f,i,rfl,_⟩:=a.form;obtain⟨g,j,rfl,_⟩:=b.form;exact⟨f,i,g,j,c,k,_,_,rfl,a,b⟩
theorem KV(s:C6):C3 13 #[s] w fun x w'=>∃p e a,yV s=(p,e,a)/\zc1 p e a w x w':=by
 obtain⟨p,e,a,b⟩:∃p e a,yV s=(p,e,a):=⟨_,_,_,rfl⟩
 exact(QM s b).mono fun _ _ c=>⟨p,e,a,b,c⟩
def wV(w:C7)(x:Ending)(w':C7):Prop:=
 ∃p a c b d,x=.returned (.agg #[.slice a p.wa.length c,.slice b p.funcs.length d])/\C2 w w'/\gH w'.heap.size p (.slice a p.wa.length c) (.slice b p.funcs.length d) w'/\t4 p
section
variable {B:Nat}{w W:C7}
theorem Rb.good0(e:Rb w W)(f:fQ B w)(b:B<=w.heap.size)(c d:C8):wV w (.returned (.agg #[(),()])) (uG W w.heap.size c d):=by
 have a:=e.nest c d;exact⟨EP,none,0,none,0,rfl,a,(zcv (f.below (a.mono b)) (Dw b a.size)).mono (Dw b a.size) Zr,VY⟩
theorem Rb.good1(j:Rb w W)(o:fQ B w)(f:B<=w.heap.size){p:Pr}{a b:Option Addr}{c d:Nat}{L:Nat}(m:EI L W p (.agg #[(a,p.wa.length,c),(b,p.funcs.length,d)]))(i:w.heap.size<L)(n:t4 p):wV w (.returned (.agg #[(a,p.wa.length,c),(b,p.funcs.length,d)])) (uG W w.heap.size (.slice a p.wa.length c) (.slice b p.funcs.length d)):=by
 have e:=j.nest (.slice a p.wa.length c) (.slice b p.funcs.length d);obtain⟨k,l⟩:=VX (m.keep (zL.nest2 (g:=w.heap.size) i (.slice a p.wa.length c) (.slice b p.funcs.length d)) (D9 i));exact⟨p,a,c,b,d,rfl,e,⟨Dz _,(o.below (e.mono f)).mono (Dw f e.size),k,l⟩,n⟩
end
theorem k0.hole(g:k0 w v)(o a:Obj):o6 w.heap.size (w.heap.size+1) ((w.alloc o).alloc a) v:=by
 obtain⟨f,n,c,rfl,t,j⟩:=g;refine⟨f,n,c,rfl,t,fun k s=>?_⟩;obtain⟨b,e,rfl,d,r⟩:=j O;obtain⟨z,i,l,m⟩:=r k s;have q:C2 w ((w.alloc o).alloc a):=(Zb.alloc Zr o).alloc Uu a;exact⟨b,e,rfl,d,O,z,i,l,(q.cell (p:=(b,e+k)) d).trans m⟩
theorem zbz(h:k0 w v)(o:Obj):gF (w.heap.size+1) w.heap.size v 0 ((w.alloc o).alloc (Z4 v 0)):=
 ⟨by have:=Ds (w.alloc o) (Z4 v 0);rw[zA]at this;exact this,h.hole _ _,Ut⟩
theorem KW{m:Nat}(c:m<=3){b d a:Nat}{vs e:C6}{D:Int}{lp:Bool}(g:D=(m:Int))(i:gF b d v a w)(_:a<=100000000)(j:vs.size=1)(k:e.size=1):
 C3 10 #[(b,0),vs,e,(D:Int),.bool lp] w (yC 800000 800001 b d v a w):=by
 have r:=MG m c;have q:=MH m c;exact((zby m).1.call c g i O j k).mono fun _ _ ⟨s,f,l,_,o,_,p,n⟩=>⟨s,f,l,O,o,O,p,n⟩
theorem V6(B:Nat)(v:C8)(w:C7)(I:fQ B w)(E:B<=w.heap.size)(J:k0 w v):C3 4 #[v] w (wV w):=by
 have C:=U I;have Q:=U (zbz J yv);have s:=U ((Rb.start w).alloc (Z4 v 0));clear I;obtain⟨L,n,c,rfl,_,Y⟩:=J;clear Y;go_enter func4,ntmps4;go_upto_region 2 with fail;generalize(w.alloc yv).alloc (Z4 (.slice L n c) 0)=W0 at *
 go_upto_region 6 with(first
  | (go_at_call 10;(with_reducible refine(KW (m:=2) (D:=2) Us Us Q.o O Us Us).mono ?_);rintro e _ ⟨_,_,rfl,_,_,_,b,a⟩
     have R:=U a;have t:=U (s.o.off b Gh O)
     clear b a)
  | (go_at_call 11;(with_reducible refine(vj (m:=2) (D:=2) Us Us R.o O Us Us).mono ?_);rintro e _ ⟨_,_,rfl,_,_,_,b,a⟩
     have S:=U a;have u:=U (t.o.off b (by have:=t.o.lt;omega) O)
     clear b a)
  | (go_at_call 10;(with_reducible refine(KW (m:=1) (D:=1) Us Us S.o O Us Us).mono ?_);rintro e _ ⟨_,_,rfl,_,_,_,b,a⟩
     have T:=U a;have x:=U (u.o.off b (by have:=u.o.lt;omega) O)
     clear b a)
  | (go_at_call 12;(with_reducible refine(l3 (m:=2) (D:=2) Us Us T.o O Us Us).mono ?_);rintro e _ ⟨_,_,rfl,_,_,_,b,a⟩
     have V:=U a;have y:=U (x.o.off b (by have:=x.o.lt;omega) O)
     clear b a)
  | (go_at_call 10;(with_reducible refine(KW (m:=3) (D:=3) Us Us V.o O Us Us).mono ?_);rintro e _ ⟨_,_,rfl,_,_,_,b,a⟩
     have W:=U a;have z:=U (y.o.off b (by have:=y.o.lt;omega) O)
     clear b a)
  | (go_at_call 11;(with_reducible refine(vj (m:=2) (D:=2) Us Us W.o O Us Us).mono ?_);rintro e Z ⟨_,_,rfl,_,_,_,b,a⟩
     have aa:=U a;have A:=U (z.o.off b (by have:=z.o.lt;omega) O)
     clear b a))
 have ad:=A.o.lt
 go_upto_region 7 with(go_at_call 13;(with_reducible refine(KV _).mono ?_);rintro e r ⟨p,k,_,F,d,g,f,i,rfl,q,G⟩
                       have X:=U (j6 F);have M:=U q;have N:=U G;have ae:Z.heap.size<=r.heap.size:=q.size
                       clear F q G)
 have P:=U (N.o.keep (zL.wb (Zb.alloc Zr (qd d p.wa.length g f p.funcs.length i))) Zr);have j:=U ((A.o.below M.o).alloc (qd d p.wa.length g f p.funcs.length i));have K:=Ds r (qd d p.wa.length g f p.funcs.length i);generalize r.alloc (qd d p.wa.length g f p.funcs.length i)=W8 at *;obtain⟨⟨_,_⟩,_⟩:=xn K;obtain⟨⟨_,_⟩,_⟩:=j.o.own;clear K;by_cases H:k=0
 .subst H
  obtain⟨l,f1⟩:=j.o.read (.slice d p.wa.length g) (.slice f p.funcs.length i);go_wp2_with fail;refine bodyPost_ret (v:=.agg #[(d,p.wa.length,g),(f,p.funcs.length,i)]) (by simp[results,results4,go_sem,l,f1]) rfl ?_;exact j.o.good1 C.o E P.o O X.o
 .have ab:(k == 0)=false:=by simpa using H
  obtain⟨l,f1⟩:=j.o.read (.slice none 0 0) (.slice none 0 0);go_wp2_with fail;refine bodyPost_ret (v:=.agg #[(),()]) (by simp[results,results4,go_sem,l,f1]) rfl ?_;exact j.o.good0 C.o E _ _
theorem V7{l:List Int}(a:fT l)(n:Nat):fT (l.take n):=fun m b=>a m (List.mem_of_mem_take b)
theorem KX(B:Nat)(v ab:C8)(n:Nat)(c:List Int)(w:C7)(T:fQ B w)(s:B<=w.heap.size)(V:k0 w v)(u:k8 B w ab c)(N:fT c)(_:n<=255):C3 3 #[v,ab,.int .u8 n] w (Cz true w):=by
 obtain⟨_,_,rfl,_⟩:=u.1.form;have J:=U T;have au:=U V;have ai:=U u;have H:=U (V7 N 10);clear T V u N;go_enter func3,ntmps3
 go_upto_region 2 with(go_at_call 4;(with_reducible refine(V6 B v w J.o s au.o).mono ?_);rintro e a ⟨p,C,K,D,L,rfl,j,M,S⟩
                       obtain⟨X,Y,Z,aa⟩:=M.box;have ah:=U aa;have av:=U Y;have m:=U (j.trans (X.mono j.size));have q:=U S;have ay:w.heap.size<=a.heap.size:=j.size;have A:=Z
                       clear j M X Y Z aa S)
 generalize a.alloc (qd C p.wa.length K D p.funcs.length L)=W2 at *;have aA:=Dx A;have aB:=Dx A.symm;clear A;obtain⟨⟨_,_⟩,_⟩:=zG av.o;have aw:a.heap.size<W2.heap.size:=O
 have aq:=U (J.o.below (m.o.mono s));have aj:=U (ai.o.below (m.o.mono s) Zr);go_upto_region 3 with fail;obtain⟨r,P⟩:=C4 (vT p (c.take 10) (4*(n:Int)));have I:=U P;have ar:=U (aq.o.below Zb.drew);clear P
 go_region_held3 (fun w'=>w'.cell? (a.heap.size,0)=some (.slice C p.wa.length K)/\w'.cell? (a.heap.size,1)=some (.slice D p.funcs.length L))
  (first
    |(go_split_ands;refine⟨?_,?_⟩ <;>(first|assumption|(rw[l];assumption)|(rw[z,l];assumption)|(rw[W,z,l];assumption)|(rw[ax,W,z,l];assumption)))
    |go_keep)
  (first
    | (go_at_call 5
       (refine(KU B W2.drew ar.o (by show B<=W2.heap.size;omega)).mono ?_)
       rintro e g ⟨rfl,b⟩;have b:C2 W2 g:=Zb.drew.trans b;have l:∀k,g.cell? ⟨a.heap.size,k,none⟩=W2.cell? ⟨a.heap.size,k,none⟩:=fun k=>b.cell (p:=⟨a.heap.size,k,none⟩) aw;have ad:=U b;have E:=U (ah.o.below (b.mono O));have G:=U (aj.o.below (b.mono O) Zr);have aC:=b.size
       clear b)
    | (go_at_call 8
       (refine(L6 B c _ g G.o).mono ?_)
       rintro e _ ⟨_,rfl,Q,rfl⟩;have ao:=U Q
       clear Q)
    | (go_at_call 7
       (refine(nO a.heap.size p (c.take 10) (4*(n:Int)) _ _ _ g E.o q.o (ao.o.below Zb O) H.o O O).mono ?_)
       rintro e i ⟨_,rfl,x,d⟩;rw[I.o]at x;have z:∀k,i.cell? ⟨a.heap.size,k,none⟩=g.cell? ⟨a.heap.size,k,none⟩:=fun k=>d.cell (p:=⟨a.heap.size,k,none⟩) (show a.heap.size<g.heap.size by omega);have al:=U x;have ae:=U d;have F:=U (E.o.below (d.mono O));have ak:=U (G.o.below (d.mono O) Zr);have aD:=d.size
       clear x d)
    | (go_at_call 8
       (refine(L6 B c _ i ak.o).mono ?_)
       rintro e _ ⟨_,rfl,R,rfl⟩;have ap:=U R
       clear R)
    | (go_at_call 9
       (refine(U6 a.heap.size p (c.take 10) (4*(n:Int)) _ _ _ i O F.o.ha F.o.hf q.o.cn q.o.n1 (ap.o.below Zb O) H.o O O).mono ?_)
       rintro e w8 ⟨_,rfl,y,f⟩;rw[I.o]at y;have W:∀k,w8.cell? ⟨a.heap.size,k,none⟩=i.cell? ⟨a.heap.size,k,none⟩:=fun k=>f.cell (p:=⟨a.heap.size,k,none⟩) (show a.heap.size<i.heap.size by omega);have am:=U y;have an:=U (al.o.below f f.size);have af:=U f;have aE:=f.size
       clear y f)
    | (go_at_call 6
       (refine(V2 w8.heap.size r _ _ w8 Zr an.o am.o).mono ?_)
       rintro e w9 ⟨rfl,t⟩;have ax:∀k,w9.cell? ⟨a.heap.size,k,none⟩=w8.cell? ⟨a.heap.size,k,none⟩:=fun k=>t.cell (p:=⟨a.heap.size,k,none⟩) (show a.heap.size<w8.heap.size by omega);have ag:=U t
       clear t))
 go_wp2_with fail;go_ret;exact⟨rfl,m.o.trans ((((ad.o.mono O).trans (ae.o.mono O)).trans (af.o.mono O)).trans (ag.o.mono O))⟩
def zc2(v:C8):Prop:=∀n c,v=.slice none n c->c=0
end Go.Proofs.YtjadgpiafjdnfaaGreatDoor
namespace Go.Proofs.YtjadgpiafjdnfaaGreatDoor
open _root_.Go.Proofs.Tryz
open Go.ChangeShapes Go.WideShapes Go.ChangeAt Go.RowKit
variable{w W:C7}{v:C8}
theorem own:ownKnob Tryz.prog.godebug=none:=by kernel_rfl
theorem MI:laidOutB Tryz.prog=true:=by kernel_rfl
abbrev yD:List (String × DataW Unit):=[("boxhedge/wrap.rows",Rows.laid_boxhedge_wrap_rows)]
theorem V8(h:laidMetH Tryz.prog yD W):laidMet Tryz.prog yD W:=by
 rw[MakeChecks.laidMetH_plain _ _ _ (by kernel_rfl)]at h;exact h
theorem zc3:Tryz.prog.globalNamed "boxhedge/wrap.rows" =some 0:=by kernel_rfl
theorem zc4:(Tryz.prog.globals[0]?).map (·.type)=some 215:=by kernel_rfl
theorem H6:Tryz.prog.cellsOf 211=2:=by kernel_rfl
theorem V9:Tryz.prog.cellsOf 9=1:=by kernel_rfl
theorem WB:Tryz.prog.cellsOf 3=1:=by kernel_rfl
theorem KY{s:C6}{l:List UInt8}(h:s.data.toList=l):s=⟨l.toArray⟩:=by
 subst h;cases s;simp
theorem QN{W:C7}{o:Nat}{a:List C8}{b:List UInt8}{n:Int}{p:List MemPlace}
 (q:DataW.trod (fun _=>()) Tryz.prog W 0 (fun _=>true) false o 211 a=some (.agg [.lit (.string b),.lit (.int .i64 n)],p)):
 a[0]?=some (.string ⟨b.toArray⟩)/\a[1]?=some (.int .i64 n):=by
 obtain⟨_,_,m,i,g,e,f⟩:=trod_struct2 underlying211 q;rw[V9]at e;rw[WB]at f;obtain⟨s,c,j,_⟩:=DataW.trod_string underlying9 e;obtain⟨k,d,l,_⟩:=DataW.trod_int underlying3 f;subst j l;simp only[Prod.mk.injEq,DataW.agg.injEq,Ca,DataW.lit.injEq,Lit.string.injEq,Lit.int.injEq,true_and,and_true]at i;obtain⟨⟨t,r⟩,_⟩:=i;rw[H6]at g
 match a,g with
 |[c0,c1],_=>
   simp at c d;subst c d r;refine⟨?_,rfl⟩;rw[KY t.symm];rfl
theorem EO(n:laidMet Tryz.prog [("boxhedge/wrap.rows",Rows.laid_boxhedge_wrap_rows)] W):Tab W:=by
 obtain⟨ps,⟨_,_,a,_,_,_,f,r,s,o,_,_⟩,_,_⟩:=n;obtain rfl:=Cs (zc3.symm.trans f);obtain rfl:=Cs (zc4.symm.trans r);obtain⟨v,_,rfl,u,_,_,q⟩:=DataW.trod_array underlying215 o;intro k _
 have e:∀j,W.cell? ⟨0,j,none⟩=a.toList[j]?:=by
  intro j;have:=World.var?_cell f s j;simpa using this
 have b:=q k O;rw[H6]at b
 have i:(v.map (·.1))[k]?=some (.agg [.lit (.string (zcc.getD k [])),.lit (.int .i64 (zcd.getD k 0))]):=by
  have c:=congrArg Prod.fst u;unfold Rows.laid_boxhedge_wrap_rows at c;simp only[DataW.agg.injEq]at c;rw[<-c];obtain rfl|rfl|rfl|rfl|rfl|rfl|rfl|rfl|rfl|rfl|rfl|rfl|rfl|rfl|rfl|rfl|rfl|rfl|rfl|rfl|rfl|rfl|rfl|rfl|rfl|rfl|rfl|rfl|rfl:k=0\/k=1\/k=2\/k=3\/k=4\/k=5\/k=6\/k=7\/k=8\/k=9\/k=10\/k=11\/k=12\/k=13\/k=14\/k=15\/k=16\/k=17\/k=18\/k=19\/k=20\/k=21\/k=22\/k=23\/k=24\/k=25\/k=26\/k=27\/k=28:=O
  all_goals rfl
 rw[Yn]at i;obtain⟨x,t,g⟩:=Option.map_eq_some_iff.1 i;rw[t]at b;obtain⟨d,p⟩:=x;simp only at g;subst g;obtain⟨l,m⟩:=QN b;rw[e,e];refine⟨?_,?_⟩
 .have:a.toList[k*2]?=((a.toList.drop (k*2)).take 2)[0]?:=by simp[List.getElem?_drop]
  rw[this,l];rfl
 .have:a.toList[k*2+1]?=((a.toList.drop (k*2)).take 2)[1]?:=by simp[List.getElem?_drop]
  rw[this,m];rfl
theorem H7(b:laidMetH Tryz.prog yD W):fQ W.heap.size W:=by
 have a:=EO (V8 b);exact⟨block_lt_of_cell (a 0 O).1,a⟩
theorem QO(os:Os)(tc:Array C8):laidMetH Tryz.prog yD ((World.laidAll Tryz.prog os yD).forCall (fun _ _=>0) ⟨#[],tc,[]⟩).memory:=by
 rw[MakeChecks.laidMetH_plain _ _ _ (by kernel_rfl)];exact laidMet_laidAll _ (by kernel_rfl) (by kernel_rfl)
theorem WC{H:Type}{enc:TypeId×C8->H}{r:Nat}{d:DataW H}{p:List MemPlace}(s:DataW.Trod enc Tryz.prog W 0 (fun _=>true) true 22 v d p)(y:Value.okWide Tryz.prog W .any r 22 v):k0 W v:=by
 obtain⟨_,GX,g,rfl⟩:=okWide_slice underlying22 y;obtain⟨_,t⟩:=s;rcases open_ints underlying22 underlying5 (by kernel_rfl) t with⟨a,_⟩|⟨x,l,c,q,a,_,_,u,z,_,m,o⟩
 .simp[Value.cells]at a
  obtain⟨rfl,rfl,rfl⟩:=a;exact⟨none,0,0,rfl,O,fun n=>absurd n O⟩
 .simp[Value.cells]at a
  obtain⟨rfl,rfl,rfl⟩:=a;have B:q.length=g:=by simpa using z
  refine⟨_,GX,g,rfl,by unfold maxLen at u;omega,fun n=>?_⟩;obtain⟨b,f,A⟩:=x;have e:=m 0 O;have w:A=none:=by simpa[Addr.add]using World.cell?_spot e
  subst w;have j:∀k,(⟨b,f,none⟩:Addr).add k=⟨b,f+k,none⟩:=fun k=>Jo
  refine⟨b,f,rfl,?_,fun k _=>?_⟩
  .rw[j]at e
   exact block_lt_of_cell e
  .have i:=m k O
   rw[j]at i;exact⟨q.getD k 0,(range_u8 o k).1,(range_u8 o k).2,i⟩
theorem Z5{H:Type}{enc:TypeId×C8->H}{z:Nat}{d:DataW H}{p:List MemPlace}(B:DataW.Trod enc Tryz.prog W 0 (fun _=>true) true 23 v d p)(J:Value.okWide Tryz.prog W .any z 23 v)(M:∀n∈d.weights Tryz.prog 23,n<=reachBytes):∃l,k8 W.heap.size W v l/\fT l/\zc2 v:=by
 obtain⟨_,GX,q,rfl⟩:=okWide_slice underlying23 J;obtain⟨_,E⟩:=B;rcases open_ints underlying23 underlying3 (by kernel_rfl) E with⟨a,_⟩|⟨x,l,c,f,a,_,_,_,L,D,w,K⟩
 .simp[Value.cells]at a
  obtain⟨rfl,rfl,rfl⟩:=a;exact⟨[],MD _ _,ME,fun n c e=>by injection e with _ _ r;exact r.symm⟩
 .simp[Value.cells]at a
  obtain⟨rfl,rfl,rfl⟩:=a;have Q:f.length=q:=by simpa using L
  have m:(f.take GX).length=GX:=Ki
  obtain⟨C,_⟩:=Prod.mk.inj D;subst C;have y:=M (((lits (H:=H) .i64 (f.take GX)).length+(lits (H:=H) .i64 (f.drop GX)).length)*Tryz.prog.bytesOf 3) (by simp[DataW.weights,underlying23]);rw[show Tryz.prog.bytesOf 3=8 by kernel_rfl]at y;simp only[lits,Yh,Yg,Ys,reachBytes]at y;refine⟨f.take GX,⟨⟨some x,q,by rw[m],by rw[m];omega,fun G=>?_⟩,fun _ n c e=>by injection e with _ _ r;omega⟩,fun n F=>bounds_i64 (K n (List.mem_of_mem_take F)),fun n c e=>Xh⟩;rw[m]at G;obtain⟨b,o,N⟩:=x;have g:=w 0 O;have I:N=none:=by simpa[Addr.add]using World.cell?_spot g
  subst I;have u:∀k,(⟨b,o,none⟩:Addr).add k=⟨b,o+k,none⟩:=fun k=>Jo
  rw[u]at g;refine⟨b,o,rfl,CT (block_lt_of_cell g) _ _ fun j t i=>?_⟩;have P:=(List.getElem?_eq_some_iff.1 i).1;rw[Y8,Dq O]at i;have s:=w j O;rw[u,Yl,i]at s;exact s
theorem zb0{a:Int}(h:(Lit.int .u8 a).wf=true):∃n:Nat,a=n/\n<=255:=by
 obtain⟨_,_⟩:=bounds_u8 h;exact⟨a.toNat,O,O⟩
