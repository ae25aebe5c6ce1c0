import Derived.Test.YthcmenajdcbnnaaGreatDoorAtEvAp
import Derived.Test.YthcmenajdcbnnaaGreatDoorTie
import Derived.Test.YthcmenajdcbnnaaGreatDoorCards
set_option linter.unusedSimpArgs false
set_option linter.unusedVariables false
set_option maxRecDepth 100000
/- THE STATEMENT of the law EvalTwo and its tied card: for whatever input of its kinds the law returns true and its arguments read as before. Condition: wrap.rows reads as the program's text lays it; the card ties that to the text. -/
namespace Go.Proofs.YthcmenajdcbnnaaGreatDoor
open Lib (hid)
open Go.ChangeMaps (open_string shut_string)
open Go.ChangeShapes Go.WideShapes Go.ChangeAt Go.RowKit
theorem evalTwo_lifted(os:Os)(L:os.Started)(H:Type)(enc:TypeId × Value->H):
 ReturnsInHanded {} Tryz.checked os 5 .any (fun w args=>(Rows.evalTwoSpec.pre enc Tryz.prog Tryz.f5 [] false w args/\laidMetH Tryz.prog qp w)/\sizedMet enc Tryz.prog Tryz.f5 (OpenSpec.ofChange Rows.evalTwoSpec) false w args)
  (Rows.evalTwoSpec.post enc Tryz.prog Tryz.f5 false true false false):=by
 refine returnsInHanded_of_change_and (C:=Tryz.checked) (X:=fun w _=>laidMetH Tryz.prog qp w) (fun _ _ _ G b=>b.of_heap G) own L (by kernel_rfl) Tryz.func5
  (ChangeSpec.witness_shaped (enc:=enc) (C:=Tryz.checked) (os:=os) (X:=fun w _=>laidMetH Tryz.prog qp w) false (World.laidAll Tryz.prog os qp) #[.int .i64 0,.int .i64 0,.int .u8 0] 8 (World.laidAll_os _ _ _)
    (World.shaped_of_ZipB (by kernel_rfl) (by kernel_rfl)) (by kernel_rfl) (by kernel_rfl) (by kernel_rfl)
    (start_met os _)) ?_
 intro W s args x Z Q i f _ _ B _;have a:∀(j:Nat) t v,Tryz.f5.params[j]? =some t->args[j]? =some v->Value.okWide Tryz.prog W .any s t v:=i;have g:=f;obtain⟨p,q,d,E,rfl,ab,ad⟩:=f;have c:DataW.TrodAll enc Tryz.prog W 0 (fun _=>true) true Tryz.f5.params.toList args.toList x p:=d;rw[Tryz.params5]at c a;obtain⟨k,ak,R,U,ae,ah,aa,rfl,rfl,y,I⟩:=trodAll_cons c;obtain⟨l,al,S,V,af,ai,rfl,rfl,rfl,z,J⟩:=trodAll_cons I;obtain⟨m,am,T,Y,ag,aj,rfl,rfl,rfl,A,K⟩:=trodAll_cons J;obtain⟨rfl,rfl,rfl⟩:=trodAll_nil K;obtain rfl:args=#[k,l,m]:=QQ
 obtain⟨rfl,rfl⟩:=trodVars_none E;obtain⟨N,rfl,rfl,rfl,n⟩:=open_int Tryz.underlying3 (a 0 3 k rfl rfl) y;obtain⟨O,rfl,rfl,rfl,o⟩:=open_int Tryz.underlying3 (a 1 3 l rfl rfl) z;obtain⟨P,rfl,rfl,rfl,r⟩:=open_int Tryz.underlying5 (a 2 5 m rfl rfl) A;obtain⟨n2,rfl,u2⟩:=nat_u8 r;clear d i;simp only[List.append_nil]at g;have D:=zAc B;refine(ltwo7_any _ _ _ _ W D Zr (bounds_i64 n) (bounds_i64 o) u2).mono fun e M ⟨F,u⟩=>?_
 subst F;exact⟨_,rfl,_,_,_,[],_,[],g,trodAll_mk1 (shut_bool Tryz.underlying4 _),(trodAll_cons_mk (shut_int Tryz.underlying3 n) (trodAll_cons_mk (shut_int Tryz.underlying3 o) (trodAll_cons_mk (shut_int Tryz.underlying5 r) trodAll_mk0))),rfl,u.frame _,fun b=>IB⟩
theorem evalTwo_holds:Rows.EvalTwoSaid:=
 OpenClaim.holds_of_wide 5 Tryz.f5 rfl rfl rfl rfl rfl rfl rfl ⟨rfl,rfl,rfl,rfl,rfl⟩ rfl rfl rfl rfl rfl (by kernel_rfl) Tryz.func5 (by kernel_rfl)
  (of_decide_eq_true (by kernel_rfl)) (by unfold Func.isWrapper;first|(rw[if_pos In];kernel_rfl)|(rw[if_neg In];exact⟨rfl,rfl⟩))
  (fun os a H enc _=>evalTwo_lifted os a H enc)
theorem evalTwo_card:Rows.EvalTwoCardSaid:=
 Claim7.holds_tied_plain_at .later [] [.data] true Rows.evalTwoCard.stood.harness Rows.evalTwoCard.stood.looks
  evalTwo_holds (fun _ a=>Ii) (by kernel_rfl) (fun _ a=>Ii) evalTwo_row_tie rfl ⟨rfl,rfl⟩ (by kernel_rfl) rfl
  (fun f c e g=>by
    obtain rfl:f=5:=Option.some.inj ((show Tryz.prog.funcNamed "boxhedge/boxhedgelaw07.EvalTwo" =some 5 by kernel_rfl).symm.trans e) |>.symm;obtain rfl:c=Tryz.f5:=(Option.some.inj (Tryz.func5.symm.trans g)).symm
    exact⟨by kernel_rfl,fun j t b=>by
     rw[Tryz.params5]at b;have i:t∈[3,3,5]:=Qy
     have d:([3,3,5].all fun u=>!Tryz.prog.wantsStandIn u)=true:=by kernel_rfl
     exact(show Tryz.prog.wantsStandIn t=false by simpa using List.all_eq_true.1 d t i)⟩)
  (by kernel_rfl)
#print axioms evalTwo_card
end Go.Proofs.YthcmenajdcbnnaaGreatDoor
