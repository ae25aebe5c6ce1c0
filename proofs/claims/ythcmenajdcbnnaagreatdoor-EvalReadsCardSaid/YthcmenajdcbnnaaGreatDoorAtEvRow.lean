import Derived.Test.YthcmenajdcbnnaaGreatDoorAtTyGlo
set_option linter.unusedSimpArgs false
set_option linter.unusedVariables false
set_option maxRecDepth 100000
/- Runs, step by step: lists as they are gone through, what a node does by its kind. No Go, no program. -/
namespace Go.Proofs.YthcmenajdcbnnaaGreatDoor
open Lib (hid)
open Go.RowKit
open Go.RowKit (wrap64 wrap32)
theorem Oj{p:Prop}(h:p:=by
 rintro e w' ⟨rfl,rfl⟩;exact⟨xm (wTwo_out op a b I7).symm (wHas_out op b I7).symm,rfl⟩):p:=h
theorem evE_spent(p:Pr)(g:Nat)(vs:Vals)(x:Ex){s:RS}(a:s.fuel=0):yA p (g+1) vs x s=.fin (qI s).st:=by
 obtain⟨k,op,n,name,args⟩:=x;obtain⟨arr,c,out,b,fuel,e,d⟩:=s;cases a;rw[yA];rfl
def callF(p:Pr)(g:Nat)(f:Fu)(l:List Int)(s:RS):Res Int:=(qw (j9 p g) (evPar f l) f.body s).bind fun a s=>.ok a.2.1 s
theorem evE_node(p:Pr)(g:Nat)(vs:Vals)(k op n:Int)(name:ByteArray)(args:List Ex){s:RS}(a:0<s.fuel)(b:¬(k=5/\(op=18\/op=19))):
 yA p (g+1) vs (.mk k op n name args) s=(evL (yA p g vs) args (qI s).st).bind fun l s=>zw p (callF p g) vs k op n name l s:=by
 obtain⟨arr,d,out,c,fuel,h,e⟩:=s;obtain⟨f,rfl⟩:∃f,fuel=f+1:=⟨fuel-1,by dsimp only at a;omega⟩
 rw[yA];show(if _ then _ else _)=_;rw[if_neg b];rfl
theorem evNode_lit(p:Pr)(c:Fu->List Int->RS->Res Int)(vs:Vals){k:Int}(op n:Int)(name:ByteArray)(l:List Int)(s:RS)(a:k=1\/k=2):zw p c vs k op n name l s=.ok n s:=by unfold zw;rw[if_pos a]
theorem evNode_var(p:Pr)(c:Fu->List Int->RS->Res Int)(vs:Vals)(op n:Int)(name:ByteArray)(l:List Int)(s:RS):zw p c vs 3 op n name l s=.ok (evGet vs name) s:=by unfold zw;rw[if_neg I8,if_pos rfl]
theorem evNode_one(p:Pr)(c:Fu->List Int->RS->Res Int)(vs:Vals)(op n:Int)(name:ByteArray)(l:List Int)(s:RS):zw p c vs 4 op n name l s=.ok (wOne op (l.getD 0 0)) (zT s):=by unfold zw;rw[if_neg I8,if_neg I8,if_pos rfl]
theorem evNode_two(p:Pr)(c:Fu->List Int->RS->Res Int)(vs:Vals)(op n:Int)(name:ByteArray)(l:List Int)(s:RS):zw p c vs 5 op n name l s=if qj op (l.getD 1 0)then .ok (qa op (l.getD 0 0) (l.getD 1 0)) (zT s)else .fin (jq (zT s) 2):=by unfold zw;rw[if_neg I8,if_neg I8,if_neg I8,if_pos rfl]
theorem evNode_idx(p:Pr)(c:Fu->List Int->RS->Res Int)(vs:Vals)(op n:Int)(name:ByteArray)(l:List Int)(s:RS):zw p c vs 6 op n name l s=ym p name (l.getD 0 0) (zT s):=by unfold zw;rw[if_neg I8,if_neg I8,if_neg I8,if_neg I8,if_pos rfl]
theorem evNode_fun(p:Pr)(c:Fu->List Int->RS->Res Int)(vs:Vals)(op n:Int)(name:ByteArray)(l:List Int)(s:RS){f:Fu}(a:jH p name=some f):zw p c vs 7 op n name l s=c f l (zT s):=by unfold zw;rw[if_neg I8,if_neg I8,if_neg I8,if_neg I8,if_neg I8,if_pos rfl,a]
theorem evNode_read(p:Pr)(c:Fu->List Int->RS->Res Int)(vs:Vals)(op n:Int)(name:ByteArray)(l:List Int)(s:RS):zw p c vs 8 op n name l s=xR (zT s):=by unfold zw;rw[if_neg I8,if_neg I8,if_neg I8,if_neg I8,if_neg I8,if_neg I8]
theorem evIdx_is{p:Pr}{name:ByteArray}{i:Int}{s:RS}{k:Nat}{l:List Int}(a:zb p.arrays name=some k)(b:s.arr[k]? =some l):ym p name i s=if 0<=i/\i<l.length then .ok (l.getD i.toNat 0) s else .fin (jq s 3):=by
 unfold ym;rw[a];dsimp only;rw[b]
theorem in_wf{n:Int}(a:i64R n):(Lit.int .i64 n).wf=true:=by
 obtain⟨b,c⟩:=a;simp[Lit.wf,IntKind.min,IntKind.max,IntKind.signed,IntKind.bits];omega
theorem in_of_wf{n:Int}(a:(Lit.int .i64 n).wf=true):i64R n:=by
 simp[Lit.wf,IntKind.min,IntKind.max,IntKind.signed,IntKind.bits]at a;exact⟨I7,I7⟩
theorem flag_in(b:Bool):i64R (flag b):=by cases b <;> exact⟨I8,I8⟩
theorem xY(n:Int):i64R (wrap64 n):=by unfold wrap64 i64R;omega
theorem bits_in(op:BinOp)(x a:Int):i64R (bits op .i64 x a):=in_of_wf (wf_bits op .i64 x a)
theorem wOne_in(op:Int){a:Int}(b:i64R a):i64R (wOne op a):=by
 obtain⟨c,d⟩:=b;unfold wOne
 repeat' split
 .exact xY _
 .exact⟨I7,I7⟩
 .exact⟨I8,I8⟩
 .exact⟨I8,I8⟩
 .have:=i8_bd a;exact⟨I7,I7⟩
 .have:=i16_bd a;exact⟨I7,I7⟩
 .exact⟨QO,QO⟩
 .exact⟨I7,I7⟩
 .exact⟨I7,I7⟩
 .exact⟨I7,I7⟩
 .exact⟨I8,I8⟩
theorem quo_in{a:Int}(c:i64R a)(n:Int)(b:0<n):i64R (a / n):=by
 obtain⟨g,e⟩:=c;refine⟨?_,?_⟩
 .rw[Int.le_ediv_iff_mul_le b]
  have: -9223372036854775808*n<=-9223372036854775808*1:=Int.mul_le_mul_of_nonpos_left I8 I7;omega
 .by_cases d:0<=a
  .exact Int.le_trans (Int.ediv_le_self n d) e
  .have:a / n<0:=Int.ediv_neg_of_neg_of_pos I7 b
   omega
theorem wTwo_in(op:Int){a:Int}(b:Int)(c:i64R a):i64R (qa op a b):=by
 have d:i64R 0:=⟨I8,I8⟩
 unfold qa
 repeat' split
 .exact xY _
 .exact xY _
 .exact xY _
 .unfold dvd
  repeat' split
  .exact d
  .exact xY _
  .obtain⟨i,j⟩:=c
   by_cases h:0<=a
   .have k:=Int.tmod_nonneg b h
    have l:a.tmod b<=a:=by
     have:=Int.natAbs_tmod a b;have e:a.natAbs % b.natAbs<=a.natAbs:=Nat.mod_le _ _;omega
    exact⟨I7,I7⟩
   .have:=Int.natAbs_tmod a b
    have e:a.natAbs % b.natAbs<=a.natAbs:=Nat.mod_le _ _;have g:=Int.tmod_nonneg b (show 0<=-a by omega);rw[Int.neg_tmod]at g;exact⟨I7,I7⟩
 .exact bits_in _ _ _
 .exact bits_in _ _ _
 .exact bits_in _ _ _
 .unfold sft
  repeat' split
  .exact xY _
  .exact quo_in c _ (Int.pow_pos I8)
  .exact xY _
 .exact flag_in _
 .exact d
end Go.Proofs.YthcmenajdcbnnaaGreatDoor
namespace Go.Proofs.YthcmenajdcbnnaaGreatDoor
open Lib (hid)
open Go.RowKit
theorem oret_int{k:IntKind}{a b:Int}(c:a=b):Ending.returned (.int k a)=.returned (.int k b):=by rw[c]
theorem onumber_any(b:Bool)(w:World):Calls Tryz.prog 143 #[.bool b] w fun e w'=>e=.returned (.int .i64 (flag b))/\w=w':=by
 cases b
 all_goals
  go_enter Tryz.func143,Tryz.ntmps143;go_wp2;go_ret;exact⟨rfl,rfl⟩
theorem orflag_any(b:Bool)(w:World):Calls Tryz.prog 42 #[.bool b] w fun e w'=>e=.returned (.int .i64 (flag b))/\w=w':=by
 cases b
 all_goals
  go_enter Tryz.func42,Tryz.ntmps42;go_wp2;go_ret;exact⟨rfl,rfl⟩
theorem oone_any(op a:Int)(b:(Lit.int .i64 a).wf=true)(w:World):Calls Tryz.prog 113 #[.int .i64 op,.int .i64 a] w fun e w'=>e=.returned (.int .i64 (wOne op a))/\w=w':=by
 have c:=hid (i64_not a b);clear b;go_enter Tryz.func113,Tryz.ntmps113;go_wp2_with (go_at_call 143;refine(onumber_any _ _).mono ?_;rintro e w' ⟨rfl,rfl⟩)
 all_goals go_ret
 all_goals refine⟨oret_int ?_,rfl⟩
 all_goals go_light
 all_goals have d:=c.out
 all_goals clear c
 all_goals simp_all [wOne,flag,w_i8,w_i16,w_u16,w_i32]
theorem xm{a b:Int}{c d:Bool}(e:a=b)(g:c=d):Ending.returned (.tuple #[.int .i64 a,.bool c])=.returned (.tuple #[.int .i64 b,.bool d]):=by rw[e,g]
theorem oret_bool{a b:Bool}(c:a=b):Ending.returned (.bool a)=.returned (.bool b):=by rw[c]
theorem oholds_any(op a b:Int)(c:12<=op)(d:op<=17)(w:World):Calls Tryz.prog 159 #[.int .i64 op,.int .i64 a,.int .i64 b] w fun e w'=>e=.returned (.bool (cmp op a b))/\w=w':=by
 obtain rfl|rfl|rfl|rfl|rfl|rfl:op=12\/op=13\/op=14\/op=15\/op=16\/op=17:=I7
 all_goals clear c d
 all_goals
  go_enter Tryz.func159,Tryz.ntmps159;go_wp2;go_ret;exact⟨oret_bool (by simp[cmp]),rfl⟩
theorem oshift_any(op a b:Int)(w:World):Calls Tryz.prog 158 #[.int .i64 op,.int .i64 a,.int .i64 b] w fun e w'=>e=.returned (.int .i64 (sft op a b))/\w=w':=by
 have g:=u64_and63' b;have c:0<=b % 64:=I7
 have d:b % 64<=63:=I7
 go_enter Tryz.func158,Tryz.ntmps158;go_wp2
 all_goals go_ret
 all_goals refine⟨oret_int ?_,rfl⟩
 all_goals go_light
 all_goals simp_all [sft,cnt,IntKind.wrap_u64]
theorem odivide_any(op a b:Int)(w:World):Calls Tryz.prog 157 #[.int .i64 op,.int .i64 a,.int .i64 b] w fun e w'=>e=.returned (.tuple #[.int .i64 (dvd op a b),.bool (!decide (b=0))])/\w=w':=by
 by_cases c:b=0
 .subst c
  go_enter Tryz.func157,Tryz.ntmps157;go_wp2
  go_ret2
  exact⟨xm (by simp[dvd]) Ia,rfl⟩
 .go_enter Tryz.func157,Tryz.ntmps157
  go_wp2
  all_goals go_ret2
  all_goals refine⟨xm ?_ ?_,rfl⟩
  all_goals go_light
  all_goals simp_all [dvd]
theorem otwo_in(op a b:Int)(c:1<=op/\op<=17)(w:World):Calls Tryz.prog 144 #[.int .i64 op,.int .i64 a,.int .i64 b] w fun e w'=>e=.returned (.tuple #[.int .i64 (qa op a b),.bool (qj op b)])/\w=w':=by
 obtain rfl|rfl|rfl|rfl|rfl|rfl|rfl|rfl|rfl|rfl|rfl|rfl|rfl|rfl|rfl|rfl|rfl:op=1\/op=2\/op=3\/op=4\/op=5\/op=6\/op=7\/op=8\/op=9\/op=10\/op=11\/op=12\/op=13\/op=14\/op=15\/op=16\/op=17:=I7
 all_goals clear c
 all_goals
  go_enter Tryz.func144,Tryz.ntmps144;go_wp2_with (first|(go_at_call 157;refine(odivide_any _ _ _ _).mono ?_;rintro e w' ⟨rfl,rfl⟩)|(go_at_call 158;refine(oshift_any _ _ _ _).mono ?_;rintro e w' ⟨rfl,rfl⟩)|(go_at_call 159;refine(oholds_any _ _ _ I8 I8 _).mono ?_;rintro e w' ⟨rfl,rfl⟩)|(go_at_call 143;refine(onumber_any _ _).mono ?_;rintro e w' ⟨rfl,rfl⟩))
  all_goals go_ret2
  all_goals exact⟨xm (by simp[qa]) (by simp[qj]),rfl⟩
theorem otwo_out(op a b:Int)(c:op<1\/17<op)(w:World):Calls Tryz.prog 144 #[.int .i64 op,.int .i64 a,.int .i64 b] w fun e w'=>e=.returned (.tuple #[.int .i64 0,.bool false])/\w=w':=by
 have n1:(op == 1)=false:=I9
 have n2:(op == 2)=false:=I9
 have o:(op == 3)=false:=I9
 have p:(op == 4)=false:=I9
 have q:(op == 5)=false:=I9
 have r:(op == 6)=false:=I9
 have t:(op == 7)=false:=I9
 have u:(op == 8)=false:=I9
 have v:(op == 9)=false:=I9
 have d:(op == 10)=false:=I9
 have g:(op == 11)=false:=I9
 have h:(op == 12)=false:=I9
 have i:(op == 13)=false:=I9
 have j:(op == 14)=false:=I9
 have k:(op == 15)=false:=I9
 have l:(op == 16)=false:=I9
 have m:(op == 17)=false:=I9
 clear c;go_enter Tryz.func144,Tryz.ntmps144;go_wp2
 go_ret2
 exact⟨rfl,rfl⟩
theorem otwo_any(op a b:Int)(w:World):Calls Tryz.prog 144 #[.int .i64 op,.int .i64 a,.int .i64 b] w fun e w'=>e=.returned (.tuple #[.int .i64 (qa op a b),.bool (qj op b)])/\w=w':=by
 by_cases c:1<=op/\op<=17
 .exact otwo_in op a b c w
 .refine(otwo_out op a b I7 w).mono ?_
  exact Oj
theorem ortwo_quo(op a b:Int)(d:op=4\/op=5)(w:World):Calls Tryz.prog 22 #[.int .i64 op,.int .i64 a,.int .i64 b] w fun e w'=>e=.returned (.tuple #[.int .i64 (qa op a b),.bool (qj op b)])/\w=w':=by
 by_cases c:b=0
 .subst c
  obtain rfl|rfl:=d
  all_goals
   go_enter Tryz.func22,Tryz.ntmps22;go_wp2
   go_ret2
   exact⟨xm (by simp[qa,dvd]) (by simp[qj]),rfl⟩
 .obtain rfl|rfl:=d
  all_goals
   go_enter Tryz.func22,Tryz.ntmps22;go_wp2
   go_ret2
   go_light
   exact⟨xm (by simp[qa,dvd,c]) (by simp[qj,c]),rfl⟩
theorem ortwo_in(op a b:Int)(d:1<=op/\op<=17)(w:World):Calls Tryz.prog 22 #[.int .i64 op,.int .i64 a,.int .i64 b] w fun e w'=>e=.returned (.tuple #[.int .i64 (qa op a b),.bool (qj op b)])/\w=w':=by
 have i:=i64_and63 b;have g:0<=b % 64:=I7
 have h:b % 64<=63:=I7
 by_cases c:op=4\/op=5
 .exact ortwo_quo op a b c w
 obtain rfl|rfl|rfl|rfl|rfl|rfl|rfl|rfl|rfl|rfl|rfl|rfl|rfl|rfl|rfl:op=1\/op=2\/op=3\/op=6\/op=7\/op=8\/op=9\/op=10\/op=11\/op=12\/op=13\/op=14\/op=15\/op=16\/op=17:=I7
 all_goals clear d c
 all_goals
  go_enter Tryz.func22,Tryz.ntmps22;go_wp2_with (go_at_call 42;refine(orflag_any _ _).mono ?_;rintro e w' ⟨rfl,rfl⟩)
  go_ret2
  exact⟨xm (by simp[qa,cmp,sft,cnt,IntKind.wrap_u64]) (by simp[qj]),rfl⟩
theorem ortwo_out(op a b:Int)(c:op<1\/17<op)(w:World):Calls Tryz.prog 22 #[.int .i64 op,.int .i64 a,.int .i64 b] w fun e w'=>e=.returned (.tuple #[.int .i64 0,.bool false])/\w=w':=by
 have n1:(op == 1)=false:=I9
 have n2:(op == 2)=false:=I9
 have o:(op == 3)=false:=I9
 have p:(op == 4)=false:=I9
 have q:(op == 5)=false:=I9
 have r:(op == 6)=false:=I9
 have t:(op == 7)=false:=I9
 have u:(op == 8)=false:=I9
 have v:(op == 9)=false:=I9
 have d:(op == 10)=false:=I9
 have g:(op == 11)=false:=I9
 have h:(op == 12)=false:=I9
 have i:(op == 13)=false:=I9
 have j:(op == 14)=false:=I9
 have k:(op == 15)=false:=I9
 have l:(op == 16)=false:=I9
 have m:(op == 17)=false:=I9
 clear c;go_enter Tryz.func22,Tryz.ntmps22;go_wp2
 go_ret2
 exact⟨rfl,rfl⟩
theorem ortwo_any(op a b:Int)(w:World):Calls Tryz.prog 22 #[.int .i64 op,.int .i64 a,.int .i64 b] w fun e w'=>e=.returned (.tuple #[.int .i64 (qa op a b),.bool (qj op b)])/\w=w':=by
 by_cases c:1<=op/\op<=17
 .exact ortwo_in op a b c w
 .refine(ortwo_out op a b I7 w).mono ?_
  exact Oj
theorem bind_ok{α β:Type}(a:α)(r:List Tok)(f:α->List Tok->PR β):(PR.ok a r).bind f=f a r:=rfl
theorem len0{α:Type}{l:List α}(a:l.length=0):l=[]:=List.eq_nil_of_length_eq_zero a
theorem xn(e:Ex)(l:List Ex):argT (e::l) 0=xv e:=argT_at ID
theorem argT_two(a e:Ex)(l:List Ex):argT (a::e::l) 1=xv e:=argT_at ID
end Go.Proofs.YthcmenajdcbnnaaGreatDoor
