import Derived.Test.YthcmenajdcbnnaaGreatDoorAlErEq
import Derived.Test.YthcmenajdcbnnaaGreatDoorTie
import Derived.Test.YthcmenajdcbnnaaGreatDoorCards
set_option linter.unusedSimpArgs false
set_option linter.unusedVariables false
set_option maxRecDepth 100000
set_option maxHeartbeats 99000000
/- THE STATEMENT of the law EvalShorts and its tied card: for whatever input of its kinds the law returns true and its arguments read as before. Condition: wrap.rows reads as the program's text lays it; the card ties that to the text. -/
namespace Go.Proofs.YthcmenajdcbnnaaGreatDoor
open Go.RowKit _root_.Go.Proofs.Tryz
theorem EE(B:Nat)(v ab:C5)(n:Nat)(c:List Int)(w:C4)(T:fO B w)(s:B<=w.heap.size)(V:j6 w v)(u:g5 B w ab c)(N:fR c)(_:n<=255):Cz 10 #[v,ab,.int .u8 n] w (Cw true w):=by
 obtain⟨_,_,rfl,_⟩:=u.1.form;have J:=U T;have au:=U V;have ai:=U u;have H:=U (nP N 10);clear T V u N;go_enter func10,ntmps10
 go_upto_region 2 with(go_at_call 25;(with_reducible refine(zAs 1 Uf Uf B v w J.o s au.o).mono ?_);rintro e a ⟨p,C,K,D,L,rfl,j,M,S⟩
                       obtain⟨X,Y,Z,aa⟩:=M.box;have ah:=U aa;have av:=U Y;have m:=U (j.trans (X.mono j.size));have q:=U S;have ay:w.heap.size<=a.heap.size:=j.size;have A:=Z
                       clear j M X Y Z aa S)
 generalize a.alloc (qQ C p.wa.length K D p.funcs.length L)=W2 at *;have aA:=Dv A;have aB:=Dv A.symm;clear A;obtain⟨⟨_,_⟩,_⟩:=zG av.o;have aw:a.heap.size<W2.heap.size:=O
 have aq:=U (J.o.below (m.o.mono s));have aj:=U (ai.o.below (m.o.mono s) Zr);go_upto_region 3 with fail;obtain⟨r,P⟩:=C0 (yD p (c.take 10) (4*(n:Int)));have I:=U P;have ar:=U (aq.o.below Zb.drew);clear P
 go_region_held3 (fun w'=>w'.cell? (a.heap.size,0)=some (.slice C p.wa.length K)/\w'.cell? (a.heap.size,1)=some (.slice D p.funcs.length L))
  (first
    |(go_split_ands;refine⟨?_,?_⟩ <;>(first|assumption|(rw[l];assumption)|(rw[z,l];assumption)|(rw[W,z,l];assumption)|(rw[ax,W,z,l];assumption)))
    |go_keep)
  (first
    | (go_at_call 15
       (refine(zAq B W2.drew ar.o Kl).mono ?_)
       rintro e g ⟨rfl,b⟩;have b:Cy W2 g:=Zb.drew.trans b;have l:∀k,g.cell? ⟨a.heap.size,k,none⟩=W2.cell? ⟨a.heap.size,k,none⟩:=fun k=>b.cell (p:=⟨a.heap.size,k,none⟩) aw
       have ad:=U b;have E:=U (ah.o.below (b.mono O));have G:=U (aj.o.below (b.mono O) Zr);have aC:=b.size
       clear b)
    | (go_at_call 18
       (refine(uC B c _ g G.o).mono ?_)
       rintro e _ ⟨_,rfl,Q,rfl⟩;have ao:=U Q
       clear Q)
    | (go_at_call 17
       (refine(v9 a.heap.size p (c.take 10) (4*(n:Int)) _ _ _ g E.o q.o (ao.o.below Zb O) H.o O O).mono ?_)
       rintro e i ⟨_,rfl,x,d⟩;rw[I.o]at x;have z:∀k,i.cell? ⟨a.heap.size,k,none⟩=g.cell? ⟨a.heap.size,k,none⟩:=fun k=>d.cell (p:=⟨a.heap.size,k,none⟩) (show a.heap.size<g.heap.size by omega)
       have al:=U x;have ae:=U d;have F:=U (E.o.below (d.mono O));have ak:=U (G.o.below (d.mono O) Zr);have aD:=d.size
       clear x d)
    | (go_at_call 18
       (refine(uC B c _ i ak.o).mono ?_)
       rintro e _ ⟨_,rfl,R,rfl⟩;have ap:=U R
       clear R)
    | (go_at_call 19
       (refine(nG a.heap.size p (c.take 10) (4*(n:Int)) _ _ _ i O F.o.ha F.o.hf q.o.cn q.o.n1 (ap.o.below Zb O) H.o O O).mono ?_)
       rintro e w8 ⟨_,rfl,y,f⟩;rw[I.o]at y;have W:∀k,w8.cell? ⟨a.heap.size,k,none⟩=i.cell? ⟨a.heap.size,k,none⟩:=fun k=>f.cell (p:=⟨a.heap.size,k,none⟩) (show a.heap.size<i.heap.size by omega)
       have am:=U y;have an:=U (al.o.below f f.size);have af:=U f;have aE:=f.size
       clear y f)
    | (go_at_call 16
       (refine(nN w8.heap.size r _ _ w8 Zr an.o am.o).mono ?_)
       rintro e w9 ⟨rfl,t⟩;have ax:∀k,w9.cell? ⟨a.heap.size,k,none⟩=w8.cell? ⟨a.heap.size,k,none⟩:=fun k=>t.cell (p:=⟨a.heap.size,k,none⟩) (show a.heap.size<w8.heap.size by omega)
       have ag:=U t
       clear t))
 go_wp2_with fail;go_ret;exact⟨rfl,m.o.trans ((((ad.o.mono O).trans (ae.o.mono O)).trans (af.o.mono O)).trans (ag.o.mono O))⟩
end Go.Proofs.YthcmenajdcbnnaaGreatDoor
namespace Go.Proofs.YthcmenajdcbnnaaGreatDoor
open _root_.Go.Proofs.Tryz
open Go.ChangeMaps (open_string shut_string)
open Go.ChangeShapes Go.WideShapes Go.ChangeAt Go.RowKit
theorem evalShorts_lifted(os:Os)(ad:os.Started)(H:Type)(enc:TypeId×C5->H):
 ReturnsInHanded {} Tryz.checked os 10 .any (fun w tc=>(Rows.evalShortsSpec.pre enc Tryz.prog Tryz.f10 [] false w tc/\laidMetH Tryz.prog qo w)/\sizedMet enc Tryz.prog Tryz.f10 (OpenSpec.ofChange Rows.evalShortsSpec) false w tc)
  (Rows.evalShortsSpec.post enc Tryz.prog Tryz.f10 false true false false):=by
 refine returnsInHanded_of_change_and (C:=Tryz.checked) (X:=fun w _=>laidMetH Tryz.prog qo w) (fun _ _ _ Q c=>c.of_heap Q) own ad (by kernel_rfl) func10
  (ChangeSpec.witness_shaped (enc:=enc) (C:=Tryz.checked) (os:=os) (X:=fun w _=>laidMetH Tryz.prog qo w) false (World.laidAll Tryz.prog os qo) #[(),(),.int .u8 0] 8 (World.laidAll_os _ _ _)
    (World.shaped_of_ZipB (by kernel_rfl) (by kernel_rfl)) (by kernel_rfl) (by kernel_rfl) (by kernel_rfl)
    (j7 os _)) ?_
 intro W G tc J _ _ s l _ r L _;have a:∀(j:Nat) t v,Tryz.f10.params[j]?=some t->tc[j]?=some v->Value.okWide Tryz.prog W .any G t v:=s;have o:=l;obtain⟨p,q,k,N,rfl,_,_⟩:=l;have i:DataW.TrodAll enc Tryz.prog W 0 (fun _=>true) true Tryz.f10.params.toList tc.toList J p:=k;rw[params10]at i a r;obtain⟨z,_,_,_,V,_,_,rfl,rfl,f,Z⟩:=trodAll_cons i;obtain⟨A,_,_,_,Y,_,rfl,rfl,rfl,g,aa⟩:=trodAll_cons Z;obtain⟨B,_,_,_,_,_,rfl,rfl,rfl,K,ab⟩:=trodAll_cons aa;obtain⟨rfl,rfl,rfl⟩:=trodAll_nil ab;obtain rfl:tc=#[z,A,B]:=Kq
 obtain⟨rfl,rfl⟩:=trodVars_none N;have u:=f;have S:∀x∈V,x.block<W.heap.size:=Kb
 have E:=nQ f (a 0 22 z rfl rfl);have y:=g;have T:∀x∈Y,x.block<W.heap.size:=Kc
 obtain⟨_,F,I,_⟩:=rO g (a 1 23 A rfl rfl) fun n R=>Vz
 obtain⟨_,rfl,rfl,rfl,D⟩:=open_int underlying5 (a 2 5 B rfl rfl) K;obtain⟨n2,rfl,u2⟩:=ED D;clear k s;simp only[Yd]at o;have M:=uG L;refine(EE _ _ _ _ _ W M Zr E F I u2).mono fun e _ ⟨P,b⟩=>?_
 subst P;exact⟨_,rfl,_,_,_,[],_,[],o,trodAll_mk1 (shut_bool underlying4 _),(trodAll_cons_mk (Below.trod uF (by kernel_rfl) (of_decide_eq_true (by kernel_rfl)) u b S) (trodAll_cons_mk (Below.trod uF (by kernel_rfl) (of_decide_eq_true (by kernel_rfl)) y b T) (trodAll_cons_mk (shut_int underlying5 D) trodAll_mk0))),rfl,b.frame _,fun c=>Xl⟩
theorem evalShorts_holds:Rows.EvalShortsSaid:=
 OpenClaim.holds_of_wide 10 Tryz.f10 rfl rfl rfl rfl rfl rfl rfl ⟨rfl,rfl,rfl,rfl,rfl⟩ rfl rfl rfl rfl rfl (by kernel_rfl) func10 (by kernel_rfl)
  (of_decide_eq_true (by kernel_rfl)) (by unfold Func.isWrapper;first|(rw[Dq Us];kernel_rfl)|(rw[Dp Us];exact⟨rfl,rfl⟩))
  (fun os a H enc _=>evalShorts_lifted os a H enc)
theorem evalShorts_card:Rows.EvalShortsCardSaid:=
 Claim7.holds_tied_plain_at .later [] [.data] true Rows.evalShortsCard.stood.harness Rows.evalShortsCard.stood.looks
  evalShorts_holds (fun _ a=>Uo) (by kernel_rfl) (fun _ a=>Uo) evalShorts_row_tie rfl ⟨rfl,rfl⟩ (by kernel_rfl) rfl
  (fun f c e g=>by
    obtain rfl:f=10:=Ca ((show Tryz.prog.funcNamed "boxhedge/boxhedgelaw07.EvalShorts" =some 10 by kernel_rfl).symm.trans e) |>.symm;obtain rfl:c=Tryz.f10:=(Ca (Tryz.func10.symm.trans g)).symm
    exact⟨by kernel_rfl,fun j t b=>by
     rw[params10]at b;have i:t∈[22,23,5]:=Ke
     have d:([22,23,5].all fun k=>!Tryz.prog.wantsStandIn k)=true:=by kernel_rfl
     exact(show Tryz.prog.wantsStandIn t=false by simpa using List.all_eq_true.1 d t i)⟩)
  (by kernel_rfl)
#print axioms evalShorts_card
