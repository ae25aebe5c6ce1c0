import Derived.Test.YthcmenajdcbnnaaGreatDoorAtEvLd
import Derived.Test.YthcmenajdcbnnaaGreatDoorTie
import Derived.Test.YthcmenajdcbnnaaGreatDoorCards
set_option linter.unusedSimpArgs false
set_option linter.unusedVariables false
set_option maxRecDepth 100000
/- THE STATEMENT of the law EvalReads and its tied card: for whatever input of its kinds the law returns true and its arguments read as before. Condition: wrap.rows reads as the program's text lays it; the card ties that to the text. -/
namespace Go.Proofs.YthcmenajdcbnnaaGreatDoor
open Lib (hid)
open Go.ChangeMaps (open_string shut_string)
open Go.ChangeShapes Go.WideShapes Go.ChangeAt Go.RowKit
theorem evalReads_lifted(os:Os)(al:os.Started)(H:Type)(enc:TypeId × Value->H):
 ReturnsInHanded {} Tryz.checked os 7 .any (fun w args=>(Rows.evalReadsSpec.pre enc Tryz.prog Tryz.f7 [] false w args/\laidMetH Tryz.prog qp w)/\sizedMet enc Tryz.prog Tryz.f7 (OpenSpec.ofChange Rows.evalReadsSpec) false w args)
  (Rows.evalReadsSpec.post enc Tryz.prog Tryz.f7 false true false false):=by
 refine returnsInHanded_of_change_and (C:=Tryz.checked) (X:=fun w _=>laidMetH Tryz.prog qp w) (fun _ _ _ Z d=>d.of_heap Z) own al (by kernel_rfl) Tryz.func7
  (ChangeSpec.witness_shaped (enc:=enc) (C:=Tryz.checked) (os:=os) (X:=fun w _=>laidMetH Tryz.prog qp w) false (World.laidAll Tryz.prog os qp) #[.slice none 0 0,.slice none 0 0,.slice none 0 0,.int .u8 0] 8 (World.laidAll_os _ _ _)
    (World.shaped_of_ZipB (by kernel_rfl) (by kernel_rfl)) (by kernel_rfl) (by kernel_rfl) (by kernel_rfl)
    (start_met os _)) ?_
 intro W M args P az ao y s _ g T _;have b:∀(j:Nat) t v,Tryz.f7.params[j]? =some t->args[j]? =some v->Value.okWide Tryz.prog W .any M t v:=y;have u:=s;obtain⟨p,q,r,V,rfl,aB,aC⟩:=s;have o:DataW.TrodAll enc Tryz.prog W 0 (fun _=>true) true Tryz.f7.params.toList args.toList P p:=r;rw[Tryz.params7]at o b g;obtain⟨D,aL,ap,av,ae,aH,aA,rfl,rfl,i,ah⟩:=trodAll_cons o;obtain⟨E,aM,aq,aw,af,aI,rfl,rfl,rfl,k,ai⟩:=trodAll_cons ah;obtain⟨F,aN,ar,ax,ag,aJ,rfl,rfl,rfl,l,aj⟩:=trodAll_cons ai;obtain⟨G,aO,au,ay,aG,aK,rfl,rfl,rfl,S,ak⟩:=trodAll_cons aj;obtain⟨rfl,rfl,rfl⟩:=trodAll_nil ak;obtain rfl:args=#[D,E,F,G]:=QQ
 obtain⟨rfl,rfl⟩:=trodVars_none V;have z:=i;have aa:∀x∈ae,x.block<W.heap.size:=by obtain⟨m,a⟩:=z;exact DataW.trod_lt m _ _ _ a
 have J:=bytes_in i (b 0 22 D rfl rfl);have A:=k;have ab:∀x∈af,x.block<W.heap.size:=by obtain⟨m,a⟩:=A;exact DataW.trod_lt m _ _ _ a
 obtain⟨aD,K,N,Q⟩:=ints_in k (b 1 23 E rfl rfl) fun n f=>by simpa using List.all_eq_true.1 g n (DataW.weights_mem_each (j:=1) (t:=23) rfl rfl n f)
 have B:=l;have ad:∀x∈ag,x.block<W.heap.size:=by obtain⟨m,a⟩:=B;exact DataW.trod_lt m _ _ _ a
 obtain⟨aE,L,O,R⟩:=ints_in l (b 2 23 F rfl rfl) fun n f=>by simpa using List.all_eq_true.1 g n (DataW.weights_mem_each (j:=2) (t:=23) rfl rfl n f)
 obtain⟨an,rfl,rfl,rfl,I⟩:=open_int Tryz.underlying5 (b 3 5 G rfl rfl) S;obtain⟨aF,rfl,u3⟩:=nat_u8 I;clear r y;simp only[List.append_nil]at u;have U:=zAc T;refine(lreads7_any _ _ _ _ _ _ _ W U Zr J K N Q L O R u3).mono fun e am ⟨Y,c⟩=>?_
 subst Y;exact⟨_,rfl,_,_,_,[],_,[],u,trodAll_mk1 (shut_bool Tryz.underlying4 _),(trodAll_cons_mk (Below.trod laidOut (by kernel_rfl) (of_decide_eq_true (by kernel_rfl)) z c aa) (trodAll_cons_mk (Below.trod laidOut (by kernel_rfl) (of_decide_eq_true (by kernel_rfl)) A c ab) (trodAll_cons_mk (Below.trod laidOut (by kernel_rfl) (of_decide_eq_true (by kernel_rfl)) B c ad) (trodAll_cons_mk (shut_int Tryz.underlying5 I) trodAll_mk0)))),rfl,c.frame _,fun d=>by cases d⟩
theorem evalReads_holds:Rows.EvalReadsSaid:=
 OpenClaim.holds_of_wide 7 Tryz.f7 rfl rfl rfl rfl rfl rfl rfl ⟨rfl,rfl,rfl,rfl,rfl⟩ rfl rfl rfl rfl rfl (by kernel_rfl) Tryz.func7 (by kernel_rfl)
  (of_decide_eq_true (by kernel_rfl)) (by unfold Func.isWrapper;first|(rw[if_pos In];kernel_rfl)|(rw[if_neg In];exact⟨rfl,rfl⟩))
  (fun os a H enc _=>evalReads_lifted os a H enc)
theorem evalReads_card:Rows.EvalReadsCardSaid:=
 Claim7.holds_tied_plain_at .later [] [.data] true Rows.evalReadsCard.stood.harness Rows.evalReadsCard.stood.looks
  evalReads_holds (fun _ a=>Ii) (by kernel_rfl) (fun _ a=>Ii) evalReads_row_tie rfl ⟨rfl,rfl⟩ (by kernel_rfl) rfl
  (fun f c e g=>by
    obtain rfl:f=7:=Option.some.inj ((show Tryz.prog.funcNamed "boxhedge/boxhedgelaw07.EvalReads" =some 7 by kernel_rfl).symm.trans e) |>.symm;obtain rfl:c=Tryz.f7:=(Option.some.inj (Tryz.func7.symm.trans g)).symm
    exact⟨by kernel_rfl,fun j t b=>by
     rw[Tryz.params7]at b;have i:t∈[22,23,23,5]:=Qy
     have d:([22,23,23,5].all fun u=>!Tryz.prog.wantsStandIn u)=true:=by kernel_rfl
     exact(show Tryz.prog.wantsStandIn t=false by simpa using List.all_eq_true.1 d t i)⟩)
  (by kernel_rfl)
#print axioms evalReads_card
end Go.Proofs.YthcmenajdcbnnaaGreatDoor
