import Derived.Test.YthcmenajdcbnnaaGreatDoorAmErEq
import Derived.Test.YthcmenajdcbnnaaGreatDoorTie
import Derived.Test.YthcmenajdcbnnaaGreatDoorCards
set_option linter.unusedSimpArgs false
set_option linter.unusedVariables false
set_option maxRecDepth 100000
/- THE STATEMENT of the law EvalBodies and its tied card: for whatever input of its kinds the law returns true and its arguments read as before. Condition: wrap.rows reads as the program's text lays it; the card ties that to the text. -/
namespace Go.Proofs.YthcmenajdcbnnaaGreatDoor
open _root_.Go.Proofs.Tryz
open Go.ChangeMaps (open_string shut_string)
open Go.ChangeShapes Go.WideShapes Go.ChangeAt Go.RowKit
theorem evalBodies_lifted(os:Os)(ad:os.Started)(H:Type)(enc:TypeId×C4->H):
 ReturnsInHanded {} Tryz.checked os 3 .any (fun w tc=>(Rows.evalBodiesSpec.pre enc Tryz.prog Tryz.f3 [] false w tc/\laidMetH Tryz.prog xv w)/\sizedMet enc Tryz.prog Tryz.f3 (OpenSpec.ofChange Rows.evalBodiesSpec) false w tc)
  (Rows.evalBodiesSpec.post enc Tryz.prog Tryz.f3 false true false false):=by
 refine returnsInHanded_of_change_and (C:=Tryz.checked) (X:=fun w _=>laidMetH Tryz.prog xv w) (fun _ _ _ Q c=>c.of_heap Q) own ad (by kernel_rfl) func3
  (ChangeSpec.witness_shaped (enc:=enc) (C:=Tryz.checked) (os:=os) (X:=fun w _=>laidMetH Tryz.prog xv w) false (World.laidAll Tryz.prog os xv) #[(),(),.int .u8 0] 8 (World.laidAll_os _ _ _)
    (World.shaped_of_ZipB (by kernel_rfl) (by kernel_rfl)) (by kernel_rfl) (by kernel_rfl) (by kernel_rfl)
    (PY os _)) ?_
 intro W G tc J _ _ s l _ r L _;have a:∀(j:Nat) t v,Tryz.f3.params[j]?=some t->tc[j]?=some v->Value.okWide Tryz.prog W .any G t v:=s;have o:=l;obtain⟨p,q,k,N,rfl,_,_⟩:=l;have i:DataW.TrodAll enc Tryz.prog W 0 (fun _=>true) true Tryz.f3.params.toList tc.toList J p:=k;rw[params3]at i a r;obtain⟨z,_,_,_,V,_,_,rfl,rfl,f,Z⟩:=trodAll_cons i;obtain⟨A,_,_,_,Y,_,rfl,rfl,rfl,g,aa⟩:=trodAll_cons Z;obtain⟨B,_,_,_,_,_,rfl,rfl,rfl,K,ab⟩:=trodAll_cons aa;obtain⟨rfl,rfl,rfl⟩:=trodAll_nil ab;obtain rfl:tc=#[z,A,B]:=by cases tc;simp_all
 obtain⟨rfl,rfl⟩:=trodVars_none N;have u:=f;have S:∀x∈V,x.block<W.heap.size:=by obtain⟨m,d⟩:=u;exact DataW.trod_lt m _ _ _ d
 have E:=VG f (a 0 22 z rfl rfl);have y:=g;have T:∀x∈Y,x.block<W.heap.size:=by obtain⟨m,d⟩:=y;exact DataW.trod_lt m _ _ _ d
 obtain⟨_,F,I,_⟩:=ZA g (a 1 23 A rfl rfl) fun n R=>by simpa using List.all_eq_true.1 r n (DataW.weights_mem_each (j:=1) (t:=23) rfl rfl n R)
 obtain⟨_,rfl,rfl,rfl,D⟩:=open_int underlying5 (a 2 5 B rfl rfl) K;obtain⟨n2,rfl,u2⟩:=za4 D;clear k s;simp only[Yd]at o;have M:=HL L;refine(DR _ _ _ _ _ W M Zr E F I u2).mono fun e _ ⟨P,b⟩=>?_
 subst P;exact⟨_,rfl,_,_,_,[],_,[],o,trodAll_mk1 (shut_bool underlying4 _),(trodAll_cons_mk (Below.trod LW (by kernel_rfl) (of_decide_eq_true (by kernel_rfl)) u b S) (trodAll_cons_mk (Below.trod LW (by kernel_rfl) (of_decide_eq_true (by kernel_rfl)) y b T) (trodAll_cons_mk (shut_int underlying5 D) trodAll_mk0))),rfl,b.frame _,fun c=>Vw⟩
theorem evalBodies_holds:Rows.EvalBodiesSaid:=
 OpenClaim.holds_of_wide 3 Tryz.f3 rfl rfl rfl rfl rfl rfl rfl ⟨rfl,rfl,rfl,rfl,rfl⟩ rfl rfl rfl rfl rfl (by kernel_rfl) func3 (by kernel_rfl)
  (of_decide_eq_true (by kernel_rfl)) (by unfold Func.isWrapper;first|(rw[Dq Xr];kernel_rfl)|(rw[Dp Xr];exact⟨rfl,rfl⟩))
  (fun os a H enc _=>evalBodies_lifted os a H enc)
theorem evalBodies_card:Rows.EvalBodiesCardSaid:=
 Claim7.holds_tied_plain_at .later [] [.data] true Rows.evalBodiesCard.stood.harness Rows.evalBodiesCard.stood.looks
  evalBodies_holds (fun _ a=>Ur) (by kernel_rfl) (fun _ a=>Ur) evalBodies_row_tie rfl ⟨rfl,rfl⟩ (by kernel_rfl) rfl
  (fun f c e g=>by
    obtain rfl:f=3:=Option.some.inj ((show Tryz.prog.funcNamed "boxhedge/boxhedgelaw07.EvalBodies" =some 3 by kernel_rfl).symm.trans e) |>.symm;obtain rfl:c=Tryz.f3:=(Option.some.inj (Tryz.func3.symm.trans g)).symm
    exact⟨by kernel_rfl,fun j t b=>by
     rw[params3]at b;have i:t∈[22,23,5]:=by simpa using Array.mem_of_getElem? b
     have d:([22,23,5].all fun k=>!Tryz.prog.wantsStandIn k)=true:=by kernel_rfl
     exact(show Tryz.prog.wantsStandIn t=false by simpa using List.all_eq_true.1 d t i)⟩)
  (by kernel_rfl)
#print axioms evalBodies_card
