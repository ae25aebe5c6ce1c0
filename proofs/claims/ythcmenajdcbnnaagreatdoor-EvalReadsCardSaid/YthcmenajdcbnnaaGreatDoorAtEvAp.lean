import Derived.Laws.AppendOwnNone
import Derived.Test.YthcmenajdcbnnaaGreatDoorRows
import Derived.Test.YthcmenajdcbnnaaGreatDoorAtRnBy
import Derived.LaidMore
import Derived.Lay
import Derived.LaidSub
import Derived.SevenTiedAt
set_option linter.unusedSimpArgs false
set_option linter.unusedVariables false
set_option maxRecDepth 100000
set_option maxHeartbeats 99000000
/- Numbers that came in are appended to a row of one's own; Ins's answer, as append wants it. -/
namespace Go.Proofs.YthcmenajdcbnnaaGreatDoor
open Lib (hid)
open Go.RowKit
def NilOK(v:Value):Prop:=∀n c,v=.slice none n c->c=0
theorem ins2_any(B:Nat)(l:List Int)(v:Value)(w:World)(b:SlC B w v l)(i:NilOK v):
 Calls Tryz.prog 18 #[v] w fun e w'=>∃a c,e=.returned (.slice a (l.take 10).length c)/\SlC B w (.slice a (l.take 10).length c) (l.take 10)/\NilOK (.slice a (l.take 10).length c)/\w=w':=by
 obtain⟨a,c,rfl,t⟩:=b.1.form;have q:l.length<=c:=b.2 _ _ _ rfl;have H:=hid b;have p:=hid i;by_cases s:10<l.length
 .have r:10<=c:=by omega
  obtain⟨x,k⟩:∃x,l[0]? =some x:=⟨_,List.getElem?_eq_getElem I7⟩
  obtain⟨g,o,j,_⟩:=b.1.cells k;have f:(l.take 10).length=10:=IH
  have m:=hid j;clear b i k j;go_enter Tryz.func18,Tryz.ntmps18;go_wp2_with (fail);go_ret;exact⟨a,c,by rw[f];rfl,by rw[f];exact slC_cut H.out I7,(fun n d e=>by rw[m.out]at e;cases e),rfl⟩
 .clear b i
  go_enter Tryz.func18,Tryz.ntmps18;go_wp2_with (fail);go_ret;have f:l.take 10=l:=List.take_of_length_le I7;exact⟨a,c,by rw[f];rfl,by rw[f];exact H.out,by rw[f];exact p.out,rfl⟩
theorem slC_news{B:Nat}{w:World}{b:Addr}{c:Nat}{l:List Int}(e:SlC B w (.slice (some b) l.length c) l):∀j u,(l.map (Value.int .i64))[j]? =some u->w.cell? (b.add j)=some u:=fun j u d=>by
 rw[List.getElem?_map,Option.map_eq_some_iff]at d;obtain⟨t,i,rfl⟩:=d;obtain⟨g,o,a,_,f⟩:=e.1.cells i;injection a with a;subst a;rw[show(⟨g,o,none⟩:Addr).add j=⟨g,o+j,none⟩by unfold Addr.add;split <;> simp_all];exact f
theorem app_ints{ops:Array Oper}{r:List Oper}{o:Oper}{a:Act}{Q:Exit->Act->World->Prop}{w:World}(g:o.guard=none)(s x:Operand)
 (m:o.op=.call { callee:=.builtin .append,args:=#[s,x],argTypes:=#[23,23] }) (b:Nat) (v:Value) (k:List Int) (n:a.eval s=v) (e:w.ownsRow b 3 1 v k.length (k.map (Value.int .i64)))
 (B:Nat) (d:Option Addr) (c:Nat) (l:List Int) (p:a.eval x=.slice d l.length c) (j:SlC B w (.slice d l.length c) l) (C:NilOK (.slice d l.length c)) (K:k.length+l.length<=1000) (D:b<=w.heap.size)
 (f:∀v' w',w'.ownsRow b 3 1 v' (k++l).length ((k++l).map (Value.int .i64))->w.grownBy w' v.ownBlock->wpList Tryz.prog ops Q r (a.put o.dst v') w'):wpList Tryz.prog ops Q (o::r) a w:=by
 obtain⟨q,i,H,I,J⟩:=info_parts vk;cases d with
 | none=>
   have E:c=0:=C _ _ rfl;have F:l=[]:=List.eq_nil_of_length_eq_zero (by have:=j.2 _ _ _ rfl;omega);subst E F;refine wpList_append_own_none g s x _ m b 3 q 1 Tryz.underlying23 i v k.length _ n e p (f v w ?_ ⟨rfl,rfl,rfl,Nat.le_refl _,fun _ _ _=>rfl⟩);rw[List.append_nil];exact e
 | some y=>
   refine wpList_append_own w g s x _ m b 3 q _ 1 8 Tryz.underlying23 i H I J rfl I7 v k.length _ n e y l.length c (l.map (Value.int .i64)) p Ia (slC_news j) (fun u G=>?_) If I7 D fun v' w' z A _=>f v' w' ?_ A
   .obtain⟨t,_,rfl⟩:=List.mem_map.1 G
    rfl
   .rw[List.length_append,List.map_append]
    exact z
end Go.Proofs.YthcmenajdcbnnaaGreatDoor
namespace Go.Proofs.YthcmenajdcbnnaaGreatDoor
open Lib (hid)
open Go.ChangeShapes Go.WideShapes Go.ChangeAt Go.RowKit
theorem own:ownKnob Tryz.prog.godebug=none:=by kernel_rfl
theorem laidOut:laidOutB Tryz.prog=true:=by kernel_rfl
abbrev qp:List (String × DataW Unit):=[("boxhedge/wrap.rows",Rows.laid_boxhedge_wrap_rows)]
theorem plain_of{W:World}(h:laidMetH Tryz.prog qp W):laidMet Tryz.prog qp W:=by
 rw[MakeChecks.laidMetH_plain _ _ _ (by kernel_rfl)]at h;exact h
theorem gRows:Tryz.prog.globalNamed "boxhedge/wrap.rows" =some 0:=by kernel_rfl
theorem tRows:(Tryz.prog.globals[0]?).map (·.type)=some 233:=by kernel_rfl
theorem cellsRow:Tryz.prog.cellsOf 230=2:=by kernel_rfl
theorem cellsStr:Tryz.prog.cellsOf 9=1:=by kernel_rfl
theorem cellsInt:Tryz.prog.cellsOf 3=1:=by kernel_rfl
theorem toList_inj{s:ByteArray}{l:List UInt8}(h:s.data.toList=l):s=⟨l.toArray⟩:=by
 subst h;cases s;simp
theorem row_cells{W:World}{o:Nat}{a:List Value}{b:List UInt8}{n:Int}{p:List MemPlace}
 (q:DataW.trod (fun _=>()) Tryz.prog W 0 (fun _=>true) false o 230 a=some (.agg [.lit (.string b),.lit (.int .i64 n)],p)):
 a[0]? =some (.string ⟨b.toArray⟩)/\a[1]? =some (.int .i64 n):=by
 obtain⟨u,v,m,i,g,e,f⟩:=trod_struct2 Tryz.underlying230 q;rw[cellsStr]at e;rw[cellsInt]at f;obtain⟨s,c,j,_⟩:=DataW.trod_string Tryz.underlying9 e;obtain⟨k,d,l,_⟩:=DataW.trod_int Tryz.underlying3 f;subst j l;simp only[Prod.mk.injEq,DataW.agg.injEq,List.cons.injEq,DataW.lit.injEq,Lit.string.injEq,Lit.int.injEq,true_and,and_true]at i;obtain⟨⟨t,r⟩,_⟩:=i;rw[cellsRow]at g
 match a,g with
 | [c0,c1],_=>
   simp at c d;subst c d r;refine⟨?_,rfl⟩;rw[toList_inj t.symm];rfl
theorem rows_of_laid{W:World}(n:laidMet Tryz.prog [("boxhedge/wrap.rows",Rows.laid_boxhedge_wrap_rows)] W):Tab W:=by
 obtain⟨ps,⟨y,F,a,w,D,E,f,r,s,o,_,_⟩,_,_⟩:=n;obtain rfl:=Option.some.inj (gRows.symm.trans f);obtain rfl:=Option.some.inj (tRows.symm.trans r);obtain⟨v,C,rfl,u,A,B,q⟩:=DataW.trod_array Tryz.underlying233 o;intro k z
 have e:∀j,W.cell? ⟨0,j,none⟩=a.toList[j]?:=by
  intro j;have:=World.var?_cell f s j;simpa using this
 have b:=q k I7;rw[cellsRow]at b
 have i:(v.map (·.1))[k]? =some (.agg [.lit (.string (sgnL.getD k [])),.lit (.int .i64 (lvlL.getD k 0))]):=by
  have c:=congrArg Prod.fst u;unfold Rows.laid_boxhedge_wrap_rows at c;simp only[DataW.agg.injEq]at c;rw[<-c];obtain rfl|rfl|rfl|rfl|rfl|rfl|rfl|rfl|rfl|rfl|rfl|rfl|rfl|rfl|rfl|rfl|rfl|rfl|rfl|rfl|rfl|rfl|rfl|rfl|rfl|rfl|rfl|rfl|rfl:k=0\/k=1\/k=2\/k=3\/k=4\/k=5\/k=6\/k=7\/k=8\/k=9\/k=10\/k=11\/k=12\/k=13\/k=14\/k=15\/k=16\/k=17\/k=18\/k=19\/k=20\/k=21\/k=22\/k=23\/k=24\/k=25\/k=26\/k=27\/k=28:=I7
  all_goals rfl
 rw[List.getElem?_map]at i;obtain⟨x,t,g⟩:=Option.map_eq_some_iff.1 i;rw[t]at b;obtain⟨d,p⟩:=x;simp only at g;subst g;obtain⟨l,m⟩:=row_cells b;rw[e,e];refine⟨?_,?_⟩
 .have:a.toList[k*2]? =((a.toList.drop (k*2)).take 2)[0]?:=by simp[List.getElem?_drop]
  rw[this,l];rfl
 .have:a.toList[k*2+1]? =((a.toList.drop (k*2)).take 2)[1]?:=by simp[List.getElem?_drop]
  rw[this,m];rfl
theorem zAc{W:World}(b:laidMetH Tryz.prog qp W):TreeTab W.heap.size W:=by
 have a:=rows_of_laid (plain_of b);exact⟨block_lt_of_cell (a 0 I7).1,a⟩
theorem start_met(os:Os)(args:Array Value):laidMetH Tryz.prog qp ((World.laidAll Tryz.prog os qp).forCall (fun _ _=>0) ⟨#[],args,[]⟩).memory:=by
 rw[MakeChecks.laidMetH_plain _ _ _ (by kernel_rfl)];exact laidMet_laidAll _ (by kernel_rfl) (by kernel_rfl)
theorem bytes_in{H:Type}{enc:TypeId × Value->H}{W:World}{q:Nat}{v:Value}{d:DataW H}{p:List MemPlace}(r:DataW.Trod enc Tryz.prog W 0 (fun _=>true) true 22 v d p)(w:Value.okWide Tryz.prog W .any q 22 v):xe W v:=by
 obtain⟨A,len0,cap0,rfl⟩:=okWide_slice Tryz.underlying22 w;obtain⟨B,s⟩:=r;rcases open_ints Tryz.underlying22 Tryz.underlying5 (by kernel_rfl) s with⟨a,_⟩|⟨x,l,c,o,a,_,D,t,y,_,j,n⟩
 .simp[Value.cells]at a
  obtain⟨rfl,rfl,rfl⟩:=a;exact⟨none,0,0,rfl,I7,fun m=>absurd m I7⟩
 .simp[Value.cells]at a
  obtain⟨rfl,rfl,rfl⟩:=a;have E:o.length=cap0:=by simpa using y
  refine⟨_,len0,cap0,rfl,by unfold maxLen at t;omega,fun m=>?_⟩;obtain⟨b,f,z⟩:=x;have e:=j 0 I7;have u:z=none:=by simpa[Addr.add]using World.cell?_spot e
  subst u;have i:∀k,(⟨b,f,none⟩:Addr).add k=⟨b,f+k,none⟩:=fun k=>Un
  refine⟨b,f,rfl,?_,fun k C=>?_⟩
  .rw[i]at e
   exact block_lt_of_cell e
  .have g:=j k I7
   rw[i]at g;exact⟨o.getD k 0,(range_u8 n k).1,(range_u8 n k).2,g⟩
theorem ints_in{H:Type}{enc:TypeId × Value->H}{W:World}{y:Nat}{v:Value}{d:DataW H}{p:List MemPlace}(z:DataW.Trod enc Tryz.prog W 0 (fun _=>true) true 23 v d p)(G:Value.okWide Tryz.prog W .any y 23 v)(K:∀n∈d.weights Tryz.prog 23,n<=reachBytes):∃l,SlC W.heap.size W v l/\AllR64 l/\NilOK v:=by
 obtain⟨N,len0,cap0,rfl⟩:=okWide_slice Tryz.underlying23 G;obtain⟨P,C⟩:=z;rcases open_ints Tryz.underlying23 Tryz.underlying3 (by kernel_rfl) C with⟨a,_⟩|⟨x,l,c,f,a,_,R,S,J,B,u,I⟩
 .simp[Value.cells]at a
  obtain⟨rfl,rfl,rfl⟩:=a;exact⟨[],slC_nil _ _,all_nil,fun n c e=>by injection e with _ _ q;exact q.symm⟩
 .simp[Value.cells]at a
  obtain⟨rfl,rfl,rfl⟩:=a;have T:f.length=cap0:=by simpa using J
  have m:(f.take len0).length=len0:=IH
  obtain⟨A,_⟩:=Prod.mk.inj B;subst A;have w:=K (((lits (H:=H) .i64 (f.take len0)).length+(lits (H:=H) .i64 (f.drop len0)).length)*Tryz.prog.bytesOf 3) (by simp[DataW.weights,Tryz.underlying23]);rw[show Tryz.prog.bytesOf 3=8 by kernel_rfl]at w;simp only[lits,List.length_map,List.length_take,List.length_drop,reachBytes]at w;refine⟨f.take len0,⟨⟨some x,cap0,by rw[m],by rw[m];omega,fun E=>?_⟩,fun M n c e=>by injection e with _ O q;omega⟩,fun n D=>bounds_i64 (I n (List.mem_of_mem_take D)),fun n c e=>Qa⟩;rw[m]at E;obtain⟨b,o,L⟩:=x;have g:=u 0 I7;have F:L=none:=by simpa[Addr.add]using World.cell?_spot g
  subst F;have s:∀k,(⟨b,o,none⟩:Addr).add k=⟨b,o+k,none⟩:=fun k=>Un
  rw[s]at g;refine⟨b,o,rfl,rdI_of (block_lt_of_cell g) _ _ fun j t i=>?_⟩;have Q:=(List.getElem?_eq_some_iff.1 i).1;rw[List.getElem?_take,if_pos I7]at i;have r:=u j I7;rw[s,List.getD_eq_getElem?_getD,i]at r;exact r
theorem nat_u8{a:Int}(b:(Lit.int .u8 a).wf=true):∃n:Nat,a=n/\n<=255:=by
 obtain⟨c,d⟩:=bounds_u8 b;exact⟨a.toNat,I7,I7⟩
end Go.Proofs.YthcmenajdcbnnaaGreatDoor
