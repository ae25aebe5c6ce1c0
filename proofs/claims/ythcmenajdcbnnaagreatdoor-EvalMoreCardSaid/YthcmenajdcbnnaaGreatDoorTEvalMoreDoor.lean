import Derived.Test.YthcmenajdcbnnaaGreatDoorAtEvTl
import Derived.Test.YthcmenajdcbnnaaGreatDoorAtEvAp
import Derived.Test.YthcmenajdcbnnaaGreatDoorTie
import Derived.Test.YthcmenajdcbnnaaGreatDoorCards
set_option linter.unusedSimpArgs false
set_option linter.unusedVariables false
set_option maxRecDepth 100000
/- THE STATEMENT of the law EvalMore and its tied card: for whatever input of its kinds the law returns true and its arguments read as before. Condition: wrap.rows reads as the program's text lays it; the card ties that to the text. -/
namespace Go.Proofs.YthcmenajdcbnnaaGreatDoor
open Lib (hid)
open Go.ChangeMaps (open_string shut_string)
open Go.ChangeShapes Go.WideShapes Go.ChangeAt Go.RowKit
theorem evalMore_lifted(os:Os)(af:os.Started)(H:Type)(enc:TypeId × Value->H):
 ReturnsInHanded {} Tryz.checked os 6 .any (fun w args=>(Rows.evalMoreSpec.pre enc Tryz.prog Tryz.f6 [] false w args/\laidMetH Tryz.prog qp w)/\sizedMet enc Tryz.prog Tryz.f6 (OpenSpec.ofChange Rows.evalMoreSpec) false w args)
  (Rows.evalMoreSpec.post enc Tryz.prog Tryz.f6 false true false false):=by
 refine returnsInHanded_of_change_and (C:=Tryz.checked) (X:=fun w _=>laidMetH Tryz.prog qp w) (fun _ _ _ S c=>c.of_heap S) own af (by kernel_rfl) Tryz.func6
  (ChangeSpec.witness_shaped (enc:=enc) (C:=Tryz.checked) (os:=os) (X:=fun w _=>laidMetH Tryz.prog qp w) false (World.laidAll Tryz.prog os qp) #[.slice none 0 0,.slice none 0 0,.int .u8 0,.int .u8 0] 8 (World.laidAll_os _ _ _)
    (World.shaped_of_ZipB (by kernel_rfl) (by kernel_rfl)) (by kernel_rfl) (by kernel_rfl) (by kernel_rfl)
    (start_met os _)) ?_
 intro W J args L av aj s l _ r O _;have a:∀(j:Nat) t v,Tryz.f6.params[j]? =some t->args[j]? =some v->Value.okWide Tryz.prog W .any J t v:=s;have o:=l;obtain⟨p,q,k,Q,rfl,ax,ay⟩:=l;have i:DataW.TrodAll enc Tryz.prog W 0 (fun _=>true) true Tryz.f6.params.toList args.toList L p:=k;rw[Tryz.params6]at i a r;obtain⟨z,aH,ak,ao,Y,aD,aw,rfl,rfl,f,aa⟩:=trodAll_cons i;obtain⟨A,aI,al,ap,Z,aE,rfl,rfl,rfl,g,ab⟩:=trodAll_cons aa;obtain⟨B,aJ,am,aq,aB,aF,rfl,rfl,rfl,M,ad⟩:=trodAll_cons ab;obtain⟨D,aK,an,ar,aC,aG,rfl,rfl,rfl,N,ae⟩:=trodAll_cons ad;obtain⟨rfl,rfl,rfl⟩:=trodAll_nil ae;obtain rfl:args=#[z,A,B,D]:=QQ
 obtain⟨rfl,rfl⟩:=trodVars_none Q;have u:=f;have U:∀x∈Y,x.block<W.heap.size:=by obtain⟨m,d⟩:=u;exact DataW.trod_lt m _ _ _ d
 have G:=bytes_in f (a 0 22 z rfl rfl);have y:=g;have V:∀x∈Z,x.block<W.heap.size:=by obtain⟨m,d⟩:=y;exact DataW.trod_lt m _ _ _ d
 obtain⟨az,I,K,au⟩:=ints_in g (a 1 23 A rfl rfl) fun n T=>by simpa using List.all_eq_true.1 r n (DataW.weights_mem_each (j:=1) (t:=23) rfl rfl n T)
 obtain⟨ah,rfl,rfl,rfl,E⟩:=open_int Tryz.underlying5 (a 2 5 B rfl rfl) M;obtain⟨n2,rfl,u2⟩:=nat_u8 E;obtain⟨ai,rfl,rfl,rfl,F⟩:=open_int Tryz.underlying5 (a 3 5 D rfl rfl) N;obtain⟨aA,rfl,u3⟩:=nat_u8 F;clear k s;simp only[List.append_nil]at o;have P:=zAc O;refine(lmore7_any _ _ _ _ _ _ W P Zr G I K u2 u3).mono fun e ag ⟨R,b⟩=>?_
 subst R;exact⟨_,rfl,_,_,_,[],_,[],o,trodAll_mk1 (shut_bool Tryz.underlying4 _),(trodAll_cons_mk (Below.trod laidOut (by kernel_rfl) (of_decide_eq_true (by kernel_rfl)) u b U) (trodAll_cons_mk (Below.trod laidOut (by kernel_rfl) (of_decide_eq_true (by kernel_rfl)) y b V) (trodAll_cons_mk (shut_int Tryz.underlying5 E) (trodAll_cons_mk (shut_int Tryz.underlying5 F) trodAll_mk0)))),rfl,b.frame _,fun c=>Q9⟩
theorem evalMore_holds:Rows.EvalMoreSaid:=
 OpenClaim.holds_of_wide 6 Tryz.f6 rfl rfl rfl rfl rfl rfl rfl ⟨rfl,rfl,rfl,rfl,rfl⟩ rfl rfl rfl rfl rfl (by kernel_rfl) Tryz.func6 (by kernel_rfl)
  (of_decide_eq_true (by kernel_rfl)) (by unfold Func.isWrapper;first|(rw[if_pos In];kernel_rfl)|(rw[if_neg In];exact⟨rfl,rfl⟩))
  (fun os a H enc _=>evalMore_lifted os a H enc)
theorem evalMore_card:Rows.EvalMoreCardSaid:=
 Claim7.holds_tied_plain_at .later [] [.data] true Rows.evalMoreCard.stood.harness Rows.evalMoreCard.stood.looks
  evalMore_holds (fun _ a=>Ii) (by kernel_rfl) (fun _ a=>Ii) evalMore_row_tie rfl ⟨rfl,rfl⟩ (by kernel_rfl) rfl
  (fun f c e g=>by
    obtain rfl:f=6:=Option.some.inj ((show Tryz.prog.funcNamed "boxhedge/boxhedgelaw07.EvalMore" =some 6 by kernel_rfl).symm.trans e) |>.symm;obtain rfl:c=Tryz.f6:=(Option.some.inj (Tryz.func6.symm.trans g)).symm
    exact⟨by kernel_rfl,fun j t b=>by
     rw[Tryz.params6]at b;have i:t∈[22,23,5,5]:=Qy
     have d:([22,23,5,5].all fun u=>!Tryz.prog.wantsStandIn u)=true:=by kernel_rfl
     exact(show Tryz.prog.wantsStandIn t=false by simpa using List.all_eq_true.1 d t i)⟩)
  (by kernel_rfl)
#print axioms evalMore_card
end Go.Proofs.YthcmenajdcbnnaaGreatDoor
