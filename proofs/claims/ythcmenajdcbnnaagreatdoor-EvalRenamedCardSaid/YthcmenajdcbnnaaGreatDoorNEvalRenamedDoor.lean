import Derived.Test.YthcmenajdcbnnaaGreatDoorAnRnGo
import Derived.Test.YthcmenajdcbnnaaGreatDoorTie
import Derived.Test.YthcmenajdcbnnaaGreatDoorCards
set_option linter.unusedSimpArgs false
set_option linter.unusedVariables false
set_option maxRecDepth 100000
/- THE STATEMENT of the law EvalRenamed and its tied card: for whatever input of its kinds the law returns true and its arguments read as before. Condition: wrap.rows reads as the program's text lays it; the card ties that to the text. -/
namespace Go.Proofs.YthcmenajdcbnnaaGreatDoor
open _root_.Go.Proofs.Tryz
open Go.ChangeMaps (open_string shut_string)
open Go.ChangeShapes Go.WideShapes Go.ChangeAt Go.RowKit
theorem evalRenamed_lifted(os:Os)(ab:os.Started)(H:Type)(enc:TypeId×C4->H):
 ReturnsInHanded {} Tryz.checked os 8 .any (fun w tc=>(Rows.evalRenamedSpec.pre enc Tryz.prog Tryz.f8 [] false w tc/\laidMetH Tryz.prog yJ w)/\sizedMet enc Tryz.prog Tryz.f8 (OpenSpec.ofChange Rows.evalRenamedSpec) false w tc)
  (Rows.evalRenamedSpec.post enc Tryz.prog Tryz.f8 false true false false):=by
 refine returnsInHanded_of_change_and (C:=Tryz.checked) (X:=fun w _=>laidMetH Tryz.prog yJ w) (fun _ _ _ P c=>c.of_heap P) own ab (by kernel_rfl) func8
  (ChangeSpec.witness_shaped (enc:=enc) (C:=Tryz.checked) (os:=os) (X:=fun w _=>laidMetH Tryz.prog yJ w) false (World.laidAll Tryz.prog os yJ) #[(),(),.int .u8 0] 8 (World.laidAll_os _ _ _)
    (World.shaped_of_ZipB (by kernel_rfl) (by kernel_rfl)) (by kernel_rfl) (by kernel_rfl) (by kernel_rfl)
    (QS os _)) ?_
 intro W base tc I _ _ s l _ r K _;have a:∀(j:Nat) t v,Tryz.f8.params[j]?=some t->tc[j]?=some v->Value.okWide Tryz.prog W .any base t v:=s;have o:=l;obtain⟨p,q,k,M,rfl,_,_⟩:=l;have i:DataW.TrodAll enc Tryz.prog W 0 (fun _=>true) true Tryz.f8.params.toList tc.toList I p:=k;rw[params8]at i a r;obtain⟨z,_,_,_,T,_,_,rfl,rfl,f,Y⟩:=trodAll_cons i;obtain⟨A,_,_,_,V,_,rfl,rfl,rfl,g,Z⟩:=trodAll_cons Y;obtain⟨B,_,_,_,_,_,rfl,rfl,rfl,J,aa⟩:=trodAll_cons Z;obtain⟨rfl,rfl,rfl⟩:=trodAll_nil aa;obtain rfl:tc=#[z,A,B]:=by cases tc;simp_all
 obtain⟨rfl,rfl⟩:=trodVars_none M;have u:=f;have R:∀x∈T,x.block<W.heap.size:=by obtain⟨m,d⟩:=u;exact DataW.trod_lt m _ _ _ d
 have E:=WX f (a 0 22 z rfl rfl);have y:=g;have S:∀x∈V,x.block<W.heap.size:=by obtain⟨m,d⟩:=y;exact DataW.trod_lt m _ _ _ d
 obtain⟨_,F,G,_⟩:=zal g (a 1 23 A rfl rfl) fun n Q=>by simpa using List.all_eq_true.1 r n (DataW.weights_mem_each (j:=1) (t:=23) rfl rfl n Q)
 obtain⟨_,rfl,rfl,rfl,D⟩:=open_int underlying5 (a 2 5 B rfl rfl) J;obtain⟨n2,rfl,u2⟩:=zcl D;clear k s;simp only[D8]at o;have L:=H5 K;refine(x6 _ _ _ _ _ W L Zr E F G u2).mono fun e _ ⟨N,b⟩=>?_
 subst N;exact⟨_,rfl,_,_,_,[],_,[],o,trodAll_mk1 (shut_bool underlying4 _),(trodAll_cons_mk (Below.trod MR (by kernel_rfl) (of_decide_eq_true (by kernel_rfl)) u b R) (trodAll_cons_mk (Below.trod MR (by kernel_rfl) (of_decide_eq_true (by kernel_rfl)) y b S) (trodAll_cons_mk (shut_int underlying5 D) trodAll_mk0))),rfl,b.frame _,fun c=>Kf⟩
theorem evalRenamed_holds:Rows.EvalRenamedSaid:=
 OpenClaim.holds_of_wide 8 Tryz.f8 rfl rfl rfl rfl rfl rfl rfl ⟨rfl,rfl,rfl,rfl,rfl⟩ rfl rfl rfl rfl rfl (by kernel_rfl) func8 (by kernel_rfl)
  (of_decide_eq_true (by kernel_rfl)) (by unfold Func.isWrapper;first|(rw[Dm Xz];kernel_rfl)|(rw[Dl Xz];exact⟨rfl,rfl⟩))
  (fun os a H enc _=>evalRenamed_lifted os a H enc)
theorem evalRenamed_card:Rows.EvalRenamedCardSaid:=
 Claim7.holds_tied_plain_at .later [] [.data] true Rows.evalRenamedCard.stood.harness Rows.evalRenamedCard.stood.looks
  evalRenamed_holds (fun _ a=>Xb) (by kernel_rfl) (fun _ a=>Xb) evalRenamed_row_tie rfl ⟨rfl,rfl⟩ (by kernel_rfl) rfl
  (fun f c e g=>by
    obtain rfl:f=8:=Cr ((show Tryz.prog.funcNamed "boxhedge/boxhedgelaw07.EvalRenamed" =some 8 by kernel_rfl).symm.trans e) |>.symm;obtain rfl:c=Tryz.f8:=(Cr (Tryz.func8.symm.trans g)).symm
    exact⟨by kernel_rfl,fun j t b=>by
     rw[params8]at b;have i:t∈[22,23,5]:=by simpa using Array.mem_of_getElem? b
     have d:([22,23,5].all fun k=>!Tryz.prog.wantsStandIn k)=true:=by kernel_rfl
     exact(show Tryz.prog.wantsStandIn t=false by simpa using List.all_eq_true.1 d t i)⟩)
  (by kernel_rfl)
#print axioms evalRenamed_card
