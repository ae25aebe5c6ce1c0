import Derived.Deep.DeepCutAuto
import Derived.Deep.CutBlock
import Derived.Test.YthcmenajdcbnnaaGreatDoorAtTreeRightD
set_option linter.unusedSimpArgs false
set_option linter.unusedVariables false
set_option maxRecDepth 100000
set_option maxHeartbeats 99000000
/- The contracts of the document's validation of expressions. -/
namespace Go.Proofs.YthcmenajdcbnnaaGreatDoor
open Lib (hid)
open Go.RowKit
theorem Oz{p:Prop}(h:p:=by
 go_wp2_with (first
  | (go_at_call 61;(with_reducible refine((t.out m' rfl).call B _ thn _ _ _ u.out x D.out O (L.out.below (n.mono k) Zr)).mono ?_);rintro e w3 ⟨rfl,i⟩;obtain⟨P,Q⟩:=qK i;have f:Below d.heap.size d w3:=n.trans (i.mono (Nat.le_of_lt s));have y:B<=w3.heap.size:=(Nat.le_trans k f.size))
  | (go_at_call 61;(with_reducible refine((t.out m' rfl).call B _ els _ _ _ u.out x E.out y (J.out.below (f.mono k) Zr)).mono ?_);rintro e w4 ⟨rfl,A⟩;have C:Below d.heap.size d w4:=f.trans (A.mono (Nat.le_trans (Nat.le_of_lt s) i.size))))
 go_ret;exact⟨zC p.out.symm,F.trans (f.mono G)⟩):p:=h
theorem OA{p:Prop}(h:p:=by
 go_wp2_with (first
  | (go_at_call 61;(with_reducible refine((t.out m' rfl).call B _ thn _ _ _ u.out x D.out O (L.out.below (n.mono k) Zr)).mono ?_);rintro e w3 ⟨rfl,i⟩;obtain⟨P,Q⟩:=qK i;have f:Below d.heap.size d w3:=n.trans (i.mono (Nat.le_of_lt s));have y:B<=w3.heap.size:=(Nat.le_trans k f.size))
  | (go_at_call 61;(with_reducible refine((t.out m' rfl).call B _ els _ _ _ u.out x E.out y (J.out.below (f.mono k) Zr)).mono ?_);rintro e w4 ⟨rfl,A⟩;have C:Below d.heap.size d w4:=f.trans (A.mono (Nat.le_trans (Nat.le_of_lt s) i.size))))
 go_ret;exact⟨zC p.out.symm,F.trans (C.mono G)⟩):p:=h
theorem OB{p:Prop}(h:p:=by
 go_wp2_with ((go_at_call 50;(with_reducible refine(qJ name _ W.out _).mono ?_);rintro e S ⟨rfl,rfl⟩))
 all_goals go_meet
 all_goals exact⟨rfl,by rw[K.out];rfl⟩):p:=h
theorem OC{p:Prop}(h:p:=by
 .have al:0<els.length:=by omega
  have p:Hid (c=false):=by
   unfold Hid;rw[<-M.out];exact zX H.out (by rw[I.out,Y.out];simp[Z])
  go_wp2_with (fail);go_ret;exact⟨zC p.out.symm,F.trans (n.mono G)⟩):p:=h
theorem OD{p:Prop}(h:p:=by
 cases tb
 .have K:Hid (V=false):=by unfold Hid;rw[<-T.out,U.out];simp[ud]
  exact OB
 .obtain rfl:nbk=true:=aK.out rfl
  cases nb
  .have K:Hid (V=false):=by unfold Hid;rw[<-T.out,U.out];simp[ud]
   exact OB
  .have K:Hid (V=true):=by unfold Hid;rw[<-T.out,U.out];simp[ud,aa]
   exact OB):p:=h
theorem OE{p:Prop}(h:p:=by
 go_wp2_with (first
  | (go_at_call 50;(with_reducible refine(qJ x.name _ d.out _).mono ?_);rintro e a ⟨rfl,rfl⟩)
  | (go_at_call 60;(with_reducible refine(yU x.type _ H.out _).mono ?_);rintro e a ⟨rfl,rfl⟩))
 go_ret;exact⟨zC f.out.symm,k.alloc I7 _⟩):p:=h
theorem OF{p:Prop}(h:p:=by
 .have aV:0<thn.length:=by omega
  have p:Hid (c=false):=by
   unfold Hid;rw[<-M.out];exact zX H.out (by rw[I.out,Y.out];simp[ad])
  go_wp2_with (fail);go_ret;exact⟨zC p.out.symm,F.trans (n.mono G)⟩):p:=h
theorem OG{p:Prop}(h:p:=by
 go_ret;exact⟨zC (by rw[<-z.out];unfold prOK;rw[xJ vC n.out (by unfold vC;simp;omega)];rfl),M⟩):p:=h
theorem OH{p:Prop}(h:p:=by
 .have K:Hid (V=false):=by unfold Hid;rw[<-T.out,U.out];simp[ud]
  exact OB):p:=h
theorem tl_nil2(s:ByteArray):s.toList=[]↔s.size=0:=by
 rw[Lib.toList_data,Lib.size_eq];exact List.length_eq_zero_iff.symm
theorem isOne_any(op:Int)(w:World):Calls Tryz.prog 104 #[.int .i64 op] w fun e w'=>e=.returned (.bool (decide (20<=op/\op<=28)))/\w=w':=by
 go_enter Tryz.func104,Tryz.ntmps104;go_wp2_with (fail)
 all_goals go_ret
 all_goals refine⟨zC ?_,rfl⟩
 all_goals go_light
 all_goals(rw[Bool.eq_iff_iff];simp;try omega)
def RxC(m:Nat):Prop:=∀(B:Nat) (z:Int) (k op n:Int) (name:ByteArray) (args:List Ex) (a:Option Addr) (b:Nat) (c:Bool) (w:World),z=(m:Int)->1<=m->m<=1000->vJ (.mk k op n name args) m=c->B<=w.heap.size->xL B w (.slice a args.length b) args->
 Calls Tryz.prog 84 #[.agg #[.int .i64 k,.int .i64 op,.int .i64 n,.string name,.slice a args.length b],.int .i64 z] w fun e w'=>e=.returned (.bool c)/\Below w.heap.size w w'
theorem RxC.call{m:Nat}(d:RxC m)(B:Nat)(z:Int)(k op n:Int)(name:ByteArray)(args:List Ex)(a:Option Addr)(b:Nat)(c:Bool)(w:World)(o:z=(m:Int))(f:1<=m)(g:m<=1000)(j:vJ (.mk k op n name args) m=c)(i:B<=w.heap.size)(l:xL B w (.slice a args.length b) args):
 Calls Tryz.prog 84 #[.agg #[.int .i64 k,.int .i64 op,.int .i64 n,.string name,.slice a args.length b],.int .i64 z] w fun e w'=>e=.returned (.bool c)/\Below w.heap.size w w':=d B z k op n name args a b c w o f g j i l
theorem rexpr_step(m:Nat)(aj:∀m',m'+1=m->RxC m'):RxC m:=by
 intro B z k op n name args H M c w ai ad ap ab al Q;have T:=hid Q;have L:=hid aj;have s:=hid ab;have x:=hid ai;have aq:args.length<=281474976710656:=by obtain⟨_,_,aD,A⟩:=Q.form;exact A
 have au:1<=z:=I7
 have av:z<=1000:=I7
 clear Q aj ab ai;go_enter Tryz.func84,Tryz.ntmps84;go_wp2_with (fail)
 go_loopw [5] (fun iv wr=>∃i:Nat,i<=args.length/\iv=.int .i64 i/\qC (args.take i) (m-1)=true/\Below (w.heap.size+1) (w.alloc (.cells #[.int .i64 k,.int .i64 op,.int .i64 n,.string name,.slice H args.length M] 147)) wr) (fun iv _=>args.length-(intOf iv).toNat)
 case atStart=>exact⟨0,Nat.zero_le _,rfl,vK _,Below.refl _ _⟩
 case round=>
  obtain⟨i,aG,rfl,Z,j⟩:=hrel;have I:=hid Z;clear Z;have ar:w.heap.size+1<=wr.heap.size:=by have:=j.size;simpa using this
  have a:Below w.heap.size w wr:=(Zb.alloc Zr _).trans (j.mono I7);have Y:B<=wr.heap.size:=I7
  have aH:w.heap.size<wr.heap.size:=I7
  have p:wr.heap[w.heap.size]? =some (.cells #[.int .i64 k,.int .i64 op,.int .i64 n,.string name,.slice H args.length M] 147 (0,0)):=(j.block _ I7).trans (heap_alloc_new w _);have D:wr.cell? ⟨w.heap.size,0,none⟩=some (.int .i64 k):=by rw[Lib.cell_of_heap p];rfl
  have E:wr.cell? ⟨w.heap.size,1,none⟩=some (.int .i64 op):=by rw[Lib.cell_of_heap p];rfl
  have F:wr.cell? ⟨w.heap.size,2,none⟩=some (.int .i64 n):=by rw[Lib.cell_of_heap p];rfl
  have G:wr.cell? ⟨w.heap.size,3,none⟩=some (.string name):=by rw[Lib.cell_of_heap p];rfl
  have q:wr.cell? ⟨w.heap.size,4,none⟩=some (.slice H args.length M):=by rw[Lib.cell_of_heap p];rfl
  clear p;by_cases O:i<args.length
  .obtain⟨⟨aw,az,ax,ay,ak⟩,N⟩:∃e,args[i]? =some e:=⟨_,List.getElem?_eq_getElem O⟩
   obtain⟨g,o,v,rfl,aE,aO,aP,aQ,aR,q4,R⟩:=(T.out.below (a.mono al) Zr).cells N;obtain⟨aA,aC,rfl,_⟩:=R.form;have J:=hid N;have U:=hid R;have aF:g<wr.heap.size:=I7
   clear N R;by_cases P:m=1
   .have am:z<2:=by have:=x.out;omega
    have K:Hid (c=false):=by
     unfold Hid;rw[<-s.out,kf,yK J.out (by rw[P,kf];simp)];simp
    clear P;go_wp2_with (fail);go_ret;exact⟨zC K.out.symm,a⟩
   .have am:¬z<2:=by have:=x.out;omega
    obtain⟨m',rfl⟩:∃m',m=m'+1:=⟨m-1,I7⟩
    have V:Hid (z-1=(m':Int)):=by have:=x.out;unfold Hid;omega
    have ae:1<=m':=I7
    have af:m'<=1000:=I7
    obtain⟨b,aa⟩:∃b,vJ (.mk aw az ax ay ak) m'=b:=⟨_,rfl⟩
    have r:=hid aa;clear aa P;cases b
    .have K:Hid (c=false):=by
      unfold Hid;rw[<-s.out,kf,Nat.add_sub_cancel,yK J.out r.out];simp
     go_wp2_with (go_at_call 84;(with_reducible refine((L.out m' rfl).call B _ _ _ _ _ _ _ _ _ _ V.out ae af r.out Y U.out).mono ?_);rintro e l ⟨rfl,S⟩);go_ret;exact⟨zC K.out.symm,a.trans (S.mono I7)⟩
    .go_wp2_with (go_at_call 84;(with_reducible refine((L.out m' rfl).call B _ _ _ _ _ _ _ _ _ _ V.out ae af r.out Y U.out).mono ?_);rintro e l ⟨rfl,S⟩)
     go_roundw
     case rel=>exact⟨i+1,I7,by go_num,by rw[exsOK_take J.out,I.out,Nat.add_sub_cancel,r.out];rfl,j.trans (S.mono ar)⟩
     case measure=>simp[intOf];omega
  .have d:Hid (c=zj k op n name args.length):=by
    have y:qC args (m-1)=true:=by rw[<-I.out,List.take_of_length_le I7]
    unfold Hid;rw[<-s.out,kf,y];have:decide (1<=m)=true:=by simpa using ad
    rw[this];simp
   obtain⟨nb,ag⟩:∃nb,vd name=nb:=⟨_,rfl⟩
   obtain⟨ob,ah⟩:∃ob,decide (20<=op/\op<=28)=ob:=⟨_,rfl⟩
   obtain⟨ln,C⟩:∃ln,args.length=ln:=⟨_,rfl⟩
   have f:=hid ag;have u:=hid ah;rw[C]at aq q d O;have ao:i=ln:=I7
   subst ao;have t:=hid C;rw[C];clear ag ah C O ad ap T L s I x au av;by_cases y:k=1\/k=2\/k=8
   .rcases y with rfl|rfl|rfl
    all_goals
     go_wp2_with (go_at_call 50;(with_reducible refine(qJ name _ f.out _).mono ?_);rintro e l ⟨rfl,rfl⟩)
     all_goals go_ret
     all_goals refine⟨zC ?_,a⟩
     all_goals rw[d.out]
     all_goals clear j a D E F G q d u f t
     all_goals go_light
     all_goals simp_all [zj,eB,tl_nil2]
     all_goals first|omega|(rw[Bool.eq_iff_iff];simp;omega)|(rw[Bool.eq_iff_iff];simp;done)
   by_cases A:k=3\/k=6\/k=7
   .rcases A with rfl|rfl|rfl
    all_goals cases nb
    all_goals
     go_wp2_with (go_at_call 50;(with_reducible refine(qJ name _ f.out _).mono ?_);rintro e l ⟨rfl,rfl⟩)
     all_goals go_ret
     all_goals refine⟨zC ?_,a⟩
     all_goals rw[d.out]
     all_goals have aB:=f.out
     all_goals clear j a D E F G q d u f t
     all_goals go_light
     all_goals simp_all [zj]
     all_goals first|omega|(rw[Bool.eq_iff_iff];simp;omega)|(rw[Bool.eq_iff_iff];simp;done)
   by_cases W:k=4
   .subst W
    all_goals
     go_wp2_with (first
      | (go_at_call 50;(with_reducible refine(qJ name _ f.out _).mono ?_);rintro e l ⟨rfl,rfl⟩)
      | (go_at_call 104;(with_reducible refine(isOne_any _ _).mono ?_);rintro e l ⟨rfl,rfl⟩))
     all_goals go_ret
     all_goals refine⟨zC ?_,a⟩
     all_goals rw[d.out]
     all_goals clear j a D E F G q d u f t
     all_goals go_light
     all_goals simp_all [zj,eB,tl_nil2]
     all_goals first|omega|(rw[Bool.eq_iff_iff];simp;omega)|(rw[Bool.eq_iff_iff];simp;done)
   by_cases X:k=5
   .subst X
    go_wp2_with (first
     | (go_at_call 50;(with_reducible refine(qJ name _ f.out _).mono ?_);rintro e l ⟨rfl,rfl⟩)
     | (go_at_call 105;(with_reducible refine(rlevel_any _ _).mono ?_);rintro e l ⟨rfl,rfl⟩))
    all_goals go_ret
    all_goals refine⟨zC ?_,a⟩
    all_goals rw[d.out]
    all_goals clear j a D E F G q d u f t
    all_goals go_light
    all_goals simp_all [zj,eB,tl_nil2]
    all_goals first|omega|(rw[Bool.eq_iff_iff];simp;omega)|(rw[Bool.eq_iff_iff];simp;done)
   .have n1:(k == 1)=false:=by simp;omega
    have n2:(k == 2)=false:=I9
    have aI:(k == 3)=false:=I9
    have aJ:(k == 4)=false:=I9
    have aK:(k == 5)=false:=I9
    have aL:(k == 6)=false:=I9
    have aM:(k == 7)=false:=I9
    have aN:(k == 8)=false:=I9
    have an:Hid (c=false):=by
     unfold Hid;rw[d.out];unfold zj;rw[if_neg I7,if_neg I7,if_neg I7,if_neg I7,if_neg I7,if_neg I7,if_neg I7,if_neg I7]
    clear y A W X;go_wp2_with (go_at_call 50;(with_reducible refine(qJ name _ f.out _).mono ?_);rintro e l ⟨rfl,rfl⟩)
    all_goals go_ret
    all_goals exact⟨zC an.out.symm,a⟩
theorem rexpr_all:∀m,RxC m
 | 0=>rexpr_step 0 (fun _ h=>I7)
 | m+1=>rexpr_step (m+1) (fun m' h=>by
    obtain rfl:m'=m:=I7
    exact rexpr_all m')
theorem formS_kind{k f:Int}{name:ByteArray}{m d e:Nat}{c:Bool}(a:zr k f name m d e c=true):k=1\/k=2\/k=3\/k=4\/k=5\/k=6\/k=7\/k=8\/k=9\/k=10:=by
 by_cases b:k=1\/k=2\/k=3\/k=4\/k=5\/k=6\/k=7\/k=8\/k=9\/k=10
 .exact b
 .exfalso
  unfold zr at a;rw[if_neg I7,if_neg I7,if_neg I7,if_neg I7,if_neg I7,if_neg I7,if_neg I7,if_neg I7]at a;cases a
def shT(k:Int):Bool:=decide (k=1)
def shN(k:Int):Bool:=decide (k=1\/k=2\/k=3)
def shA(k:Int):Int:=if k=3 then 2 else if k=6\/k=7 then 0 else if 1<=k/\k<=10 then 1 else -1
def shB(k:Int):Bool:=decide (k=4\/k=5)
def shE(k:Int):Bool:=decide (k=4)
theorem shape_any(k:Int)(w:World):Calls Tryz.prog 83 #[.int .i64 k] w fun e w'=>e=.returned (.tuple #[.bool (shT k),.bool (shN k),.int .i64 (shA k),.bool (shB k),.bool (shE k)])/\w=w':=by
 by_cases a:1<=k/\k<=10
 .obtain rfl|rfl|rfl|rfl|rfl|rfl|rfl|rfl|rfl|rfl:k=1\/k=2\/k=3\/k=4\/k=5\/k=6\/k=7\/k=8\/k=9\/k=10:=by omega
  all_goals
   clear a;go_enter Tryz.func83,Tryz.ntmps83;go_wp2_with (fail);exact bodyPost_ret (v:=.tuple #[.bool (shT _),.bool (shN _),.int .i64 (shA _),.bool (shB _),.bool (shE _)]) (by simp[results,Tryz.results83,go_sem];decide) rfl ⟨rfl,rfl⟩
 .have n1:(k == 1)=false:=by simp;omega
  have n2:(k == 2)=false:=I9
  have l:(k == 3)=false:=I9
  have m:(k == 4)=false:=I9
  have n:(k == 5)=false:=I9
  have o:(k == 6)=false:=I9
  have p:(k == 7)=false:=I9
  have q:(k == 8)=false:=I9
  have r:(k == 9)=false:=I9
  have j:(k == 10)=false:=I9
  have i:Hid (shT k=false/\shN k=false/\shA k= -1/\shB k=false/\shE k=false):=by
   unfold Hid shT shN shA shB shE;refine⟨I9,I9,?_,I9,I9⟩;rw[if_neg I7,if_neg I7,if_neg a]
  clear a;go_enter Tryz.func83,Tryz.ntmps83;go_wp2_with (fail);obtain⟨b,c,d,f,g⟩:=i.out;rw[b,c,d,f,g];exact bodyPost_ret (v:=.tuple #[.bool false,.bool false,.int .i64 (-1),.bool false,.bool false]) (by simp[results,Tryz.results83,go_sem]) rfl ⟨rfl,rfl⟩
def RsC(m:Nat):Prop:=∀(B:Nat) (z:Int) (l:List St) (c:Bool) (v:Value) (w:World),z=(m:Int)->m<=1000->stsOK l m=c->B<=w.heap.size->SlS B w v l->
 Calls Tryz.prog 61 #[v,.int .i64 z] w fun e w'=>e=.returned (.bool c)/\Below w.heap.size w w'
theorem RsC.call{m:Nat}(a:RsC m)(B:Nat)(z:Int)(l:List St)(c:Bool)(v:Value)(w:World)(i:z=(m:Int))(f:m<=1000)(d:stsOK l m=c)(b:B<=w.heap.size)(g:SlS B w v l):
 Calls Tryz.prog 61 #[v,.int .i64 z] w fun e w'=>e=.returned (.bool c)/\Below w.heap.size w w':=a B z l c v w i f d b g
def f1(k a:Int)(name:ByteArray)(b:Nat):Bool:=decide ((b:Int)=shA k) && (shT k == ud a) && (shT k || decide (a=0)) && (shN k == vd name) && (shN k || eB name)
def f3(k:Int)(a b:Nat)(c:Bool):Bool:=(shB k || decide (a=0)) && (shE k || decide (b=0)) && (!(decide (k=10)) || c)
theorem nm_empty{s:ByteArray}(a:eB s=true):vd s=false:=by
 have b:s.size=0:=by simpa[eB]using a
 have:s.data.toList=[]:=List.eq_nil_of_length_eq_zero b;unfold vd;rw[this];rfl
theorem formS_split(k d:Int)(name:ByteArray)(a b c:Nat)(f:Bool):zr k d name a b c f=(f1 k d name a && f3 k b c f):=by
 by_cases e:1<=k/\k<=10
 .have l:eB name=true->vd name=false:=nm_empty
  have m:d=0->ud d=false:=fun e=>by rw[e];rfl
  obtain rfl|rfl|rfl|rfl|rfl|rfl|rfl|rfl|rfl|rfl:k=1\/k=2\/k=3\/k=4\/k=5\/k=6\/k=7\/k=8\/k=9\/k=10:=I7
  all_goals
   clear e;rw[Bool.eq_iff_iff];simp[zr,f1,f3,shA,shT,shN,shB,shE]
   first
    | (constructor <;> intro j <;> simp_all)
    | (intro n;constructor <;> intro j <;> simp_all)
  all_goals omega
 .have g:zr k d name a b c f=false:=by
   cases hf:zr k d name a b c f with
   | false=>rfl
   | true=>exact absurd (formS_kind hf) I7
  have i:f1 k d name a=false:=by
   unfold f1 shA;rw[if_neg I7,if_neg I7,if_neg e];have:decide ((a:Int)= -1)=false:=Ia
   rw[this];rfl
  rw[g,i];rfl
theorem shape_is(k:Int)(f d a b:Bool)(c:Int)(g:shT k=f)(i:shN k=d)(j:shA k=c)(l:shB k=a)(m:shE k=b)(w:World):
 Calls Tryz.prog 83 #[.int .i64 k] w fun e w'=>e=.returned (.tuple #[.bool f,.bool d,.int .i64 c,.bool a,.bool b])/\w=w':=by
 subst g i j l m;exact shape_any k w
theorem rexpr_100(B:Nat)(k op n:Int)(name:ByteArray)(args:List Ex)(a:Option Addr)(b:Nat)(c:Bool)(w:World)(f:vJ (.mk k op n name args) 100=c)(d:B<=w.heap.size)(g:xL B w (.slice a args.length b) args):
 Calls Tryz.prog 84 #[.agg #[.int .i64 k,.int .i64 op,.int .i64 n,.string name,.slice a args.length b],.int .i64 100] w fun e w'=>e=.returned (.bool c)/\Below w.heap.size w w':=(rexpr_all 100).call B 100 k op n name args a b c w rfl I7 I7 f d g
theorem rstmts_step(m:Nat)(be:∀m',m'+1=m->RsC m'):RsC m:=by
 intro B z l c v w bd bR a8 a3 aQ;obtain⟨bG,bI,rfl,bS⟩:=aQ.form;have aY:=hid aQ;have M:=hid a8;have t:=hid be;have aL:=hid bd;have b1:0<=z:=I7
 have b2:z<=1000:=I7
 clear aQ a8 be bd;go_enter Tryz.func61,Tryz.ntmps61;go_wp2_with (fail)
 go_loopw [5] (fun iv wr=>∃j:Nat,j<=l.length/\iv=.int .i64 j/\stsOK (l.take j) m=true/\Below w.heap.size w wr) (fun iv _=>l.length-(intOf iv).toNat)
 case atStart=>exact⟨0,Nat.zero_le _,rfl,zAh _,Below.refl _ _⟩
 case round=>
  obtain⟨j,bO,rfl,a4,F⟩:=hrel;have ab:=hid a4;clear a4;have G:=F.size;have k:B<=wr.heap.size:=Nat.le_trans a3 G;by_cases bz:j<l.length
  .obtain⟨⟨R,X,name,args,thn,els⟩,aN⟩:∃e,l[j]? =some e:=⟨_,List.getElem?_eq_getElem bz⟩
   have H:=hid aN;obtain⟨g,o,v,b5,b6,rfl,bM,bo,bp,bq,br,bs,bt,aS,aT,aU⟩:=(aY.out.below (F.mono a3) Zr).cells aN;obtain⟨av,ax,rfl,bT⟩:=aS.form;obtain⟨am,an,rfl,bX⟩:=aT.form;obtain⟨af,ak,rfl,bY⟩:=aU.form;have aZ:=hid aS;have L:=hid aT;have J:=hid aU;have bN:g<wr.heap.size:=I7
   clear aN aS aT aU;obtain⟨nb,aR⟩:∃nb,vd name=nb:=⟨_,rfl⟩
   obtain⟨tb,aD⟩:∃tb,shT R=tb:=⟨_,rfl⟩
   obtain⟨nbk,aB⟩:∃nbk,shN R=nbk:=⟨_,rfl⟩
   obtain⟨na,aA⟩:∃na,shA R=na:=⟨_,rfl⟩
   obtain⟨bb,aM⟩:∃bb,shB R=bb:=⟨_,rfl⟩
   obtain⟨eb,aO⟩:∃eb,shE R=eb:=⟨_,rfl⟩
   have U:Hid (f1 R X name args.length=(decide ((args.length:Int)=na) && (tb == ud X) && (tb || decide (X=0)) && (nbk == nb) && (nbk || eB name))):=by unfold Hid f1;rw[aA,aD,aB,aR]
   have Y:Hid (f3 R thn.length els.length (uL args)=((bb || decide (thn.length=0)) && (eb || decide (els.length=0)) && (!(decide (R=10)) || uL args))):=by unfold Hid f3;rw[aM,aO]
   have bm:=hid aA;have aK:Hid (tb=true->nbk=true):=by unfold Hid;rw[<-aD,<-aB];unfold shT shN;simp;intro N;exact .inl N
   have W:=hid aR;have aJ:Hid (∀w',Calls Tryz.prog 83 #[.int .i64 R] w' fun e S=>e=.returned (.tuple #[.bool tb,.bool nbk,.int .i64 na,.bool bb,.bool eb])/\w'=S):=fun w'=>shape_is R tb nbk bb eb na aD aB aA aM aO w'
   clear aR aD aB aA aM aO;rcases m with _|m'
   .have a9:z<1:=by have:=aL.out;omega
    have p:Hid (c=false):=by
     unfold Hid;rw[<-M.out];exact zX H.out (by rw[kH];simp)
    go_wp2_with (go_at_call 83;(with_reducible refine(aJ.out _).mono ?_);rintro e S ⟨rfl,rfl⟩);go_ret;exact⟨zC p.out.symm,F.alloc G _⟩
   .have a9:¬z<1:=by have:=aL.out;omega
    have u:Hid (z-1=(m':Int)):=by have:=aL.out;unfold Hid;omega
    have x:m'<=1000:=I7
    have I:Hid (stOK (.mk R X name args thn els) (m'+1)=(f1 R X name args.length && f3 R thn.length els.length (uL args) && qC args 100 && stsOK thn m' && stsOK els m')):=by
     unfold Hid;rw[kH,formS_split,Nat.add_sub_cancel];simp
    obtain⟨V,ba⟩:∃b,f1 R X name args.length=b:=⟨_,rfl⟩
    have T:=hid ba;clear ba;have bL:decide (z<1)=false:=by simpa using a9
    go_upto_region 6 with((go_at_call 83;(with_reducible refine(aJ.out _).mono ?_);rintro e S ⟨rfl,rfl⟩))
    go_cut [77] (fun bC bF=>wr.alloc (.cells #[.int .i64 R,.int .i64 X,.string name,.slice av args.length ax,.slice am thn.length an,.slice af els.length ak] 139)=bF/\bC=.bool (!V))
    case first=>
     as_aux_lemma=>
      by_cases aa:¬(args.length:Int)=na
      .have bw:((args.length:Int) == na)=false:=by simpa using aa
       have K:Hid (V=false):=by unfold Hid;rw[<-T.out,U.out];simp[ud,aa]
       exact OB
      replace aa:(args.length:Int)=na:=I7
      have bw:((args.length:Int) == na)=true:=by simpa using aa
      by_cases aF:X=0
      .subst aF
       cases tb
       .cases nbk
        .cases nb
         .by_cases aC:eB name=true
          .have bA:name.toList=[]:=(tl_nil2 name).2 (by simpa[eB]using aC)
           have K:Hid (V=true):=by unfold Hid;rw[<-T.out,U.out];simp[ud,aa,aC]
           exact OB
          .have bc:¬name.toList=[]:=fun N=>aC (by simpa[eB]using(tl_nil2 name).1 N)
           have bA:name.toList.isEmpty=false:=by simpa using bc
           clear bc;have K:Hid (V=false):=by unfold Hid;rw[<-T.out,U.out];simp[ud,aC]
           exact OB
         exact OH
        .cases nb
         .have K:Hid (V=false):=by unfold Hid;rw[<-T.out,U.out];simp[ud]
          exact OB
         .have K:Hid (V=true):=by unfold Hid;rw[<-T.out,U.out];simp[ud,aa]
          exact OB
       exact OH
      .by_cases aG:X=1
       .subst aG
        exact OD
       .by_cases aH:X=2
        .subst aH
         exact OD
        .have bU:(X == 0)=false:=by simpa using aF
         have bV:(X == 1)=false:=by simpa using aG
         have bW:(X == 2)=false:=by simpa using aH
         cases tb
         .have K:Hid (V=false):=by unfold Hid;rw[<-T.out,U.out];simp[ud,aF,aG,aH]
          exact OB
         .have K:Hid (V=false):=by unfold Hid;rw[<-T.out,U.out];simp[ud,aF,aG,aH]
          exact OB
    case rest=>
     obtain⟨rfl,aE⟩:=hcut;cases V
     .change _=Value.bool true at aE
      subst aE
      have p:Hid (c=false):=by
       unfold Hid;rw[<-M.out];exact zX H.out (by rw[I.out,T.out];simp)
      go_wp2_with (fail);go_ret;exact⟨zC p.out.symm,F.alloc G _⟩
     .change _=Value.bool false at aE
      subst aE
      have aa:(args.length:Int)=na:=by
       have N:=U.out;rw[T.out]at N;have N:=N.symm;simp only[Bool.and_eq_true,decide_eq_true_eq]at N;exact N.1.1.1.1
      subst aa;have ah:Hid (f1 R X name args.length=true):=T;clear T;obtain⟨d,rfl⟩:∃d,d=wr:=⟨_,rfl⟩
      clear U aJ aK W aY;go_wp2_with (fail)
      go_loopw [12] (fun iv bD=>∃q:Nat,q<=args.length/\iv=.int .i64 q/\qC (args.take q) 100=true/\Below (d.heap.size+1) (d.alloc (.cells #[.int .i64 R,.int .i64 X,.string name,.slice av args.length ax,.slice am thn.length an,.slice af els.length ak] 139)) bD) (fun iv _=>args.length-(intOf iv).toNat)
      case atStart=>exact⟨0,Nat.zero_le _,rfl,vK _,Below.refl _ _⟩
      case round=>
       as_aux_lemma=>
        obtain⟨q,b0,rfl,a5,az⟩:=hrel;have aI:=hid a5;clear a5;have s:d.heap.size<wr.heap.size:=by have bK:d.heap.size+1<=wr.heap.size:=(by have:=az.size;simpa using this);omega
        have n:Below d.heap.size d wr:=(Zb.alloc Zr _).trans (az.mono I7);have O:B<=wr.heap.size:=I7
        have ar:wr.heap[d.heap.size]? =some (.cells #[.int .i64 R,.int .i64 X,.string name,.slice av args.length ax,.slice am thn.length an,.slice af els.length ak] 139 (0,0)):=(az.block _ I7).trans (heap_alloc_new d _);have b7:wr.cell? ⟨d.heap.size,0,none⟩=some (.int .i64 R):=by rw[Lib.cell_of_heap ar];rfl
        have b8:wr.cell? ⟨d.heap.size,3,none⟩=some (.slice av args.length ax):=by rw[Lib.cell_of_heap ar];rfl
        have b9:wr.cell? ⟨d.heap.size,4,none⟩=some (.slice am thn.length an):=by rw[Lib.cell_of_heap ar];rfl
        have ca:wr.cell? ⟨d.heap.size,5,none⟩=some (.slice af els.length ak):=by rw[Lib.cell_of_heap ar];rfl
        clear ar bo bp bq br bs bt;by_cases bx:q<args.length
        .obtain⟨⟨ap,bi,bf,bg,a2⟩,ae⟩:∃e,args[q]? =some e:=⟨_,List.getElem?_eq_getElem bx⟩
         obtain⟨ay,bh,v',rfl,bu,aX,bj,bk,bl,q4,au⟩:=(aZ.out.below (n.mono k) Zr).cells ae;obtain⟨bH,bJ,rfl,bZ⟩:=au.form;obtain⟨bn,a7⟩:∃b,vJ (.mk ap bi bf bg a2) 100=b:=⟨_,rfl⟩
         have a1:=hid ae;have a0:=hid au;have aw:=hid a7;have bv:ay<wr.heap.size:=I7
         clear ae au a7;cases bn
         .have p:Hid (c=false):=by
           unfold Hid;rw[<-M.out];exact zX H.out (by rw[I.out,yK a1.out aw.out];simp)
          go_wp2_with (go_at_call 84;(with_reducible refine(rexpr_100 B _ _ _ _ _ _ _ _ _ aw.out O a0.out).mono ?_);rintro e S ⟨rfl,aW⟩);go_ret;exact⟨zC p.out.symm,F.trans ((n.trans (aW.mono (Nat.le_of_lt s))).mono G)⟩
         .go_wp2_with (go_at_call 84;(with_reducible refine(rexpr_100 B _ _ _ _ _ _ _ _ _ aw.out O a0.out).mono ?_);rintro e S ⟨rfl,aW⟩)
          go_roundw
          case rel=>exact⟨q+1,I7,by go_num,by rw[exsOK_take a1.out,aI.out,aw.out];rfl,az.trans (aW.mono (Nat.succ_le_of_lt s))⟩
          case measure=>simp[intOf];omega
        .have ag:Hid (qC args 100=true):=by unfold Hid;rw[<-aI.out,List.take_of_length_le I7]
         clear aI;obtain⟨ai,C⟩:∃b,stsOK thn m'=b:=⟨_,rfl⟩
         obtain⟨aj,a6⟩:∃b,stsOK els m'=b:=⟨_,rfl⟩
         have D:=hid C;have E:=hid a6;clear C a6;by_cases ao:R=10
         .subst ao
          have bQ:args.length=1:=by have:=bm.out;simp[shA]at this;omega
          obtain⟨⟨ap,bi,bf,bg,a2⟩,ae⟩:∃e,args[0]? =some e:=⟨_,List.getElem?_eq_getElem I7⟩
          obtain⟨ay,bh,v',rfl,bu,aX,bj,bk,bl,q4,au⟩:=(aZ.out.below (n.mono k) Zr).cells ae
          have aq:Hid (uL args=decide (ap=7)):=by
           unfold Hid;cases args with
           | nil=>simp at ae
           | cons a r=>simp at ae;subst ae;rfl
          have cb:wr.cell? ⟨ay,bh,none⟩=some (.int .i64 ap):=by simpa using aX
          have bv:ay<wr.heap.size:=I7
          have bP:0<args.length:=I7
          clear ae au aX bj bk bl q4;by_cases aP:ap=7
          .subst aP
           as_aux_lemma=>
            cases bb
            .by_cases ad:thn.length=0
             .have aV:¬0<thn.length:=by omega
              replace L:Hid (SlS B d (.slice am 0 an) thn):=by have N:=L.out;rw[ad]at N;exact N
              cases eb
              .by_cases Z:els.length=0
               .have al:¬0<els.length:=by omega
                replace J:Hid (SlS B d (.slice af 0 ak) els):=by have N:=J.out;rw[Z]at N;exact N
                cases ai
                .have p:Hid (c=false):=by
                  unfold Hid;rw[<-M.out];exact zX H.out (by rw[I.out,D.out];simp)
                 exact Oz
                .cases aj
                 .have p:Hid (c=false):=by
                   unfold Hid;rw[<-M.out];exact zX H.out (by rw[I.out,E.out];simp)
                  exact OA
                 .go_wp2_with (first
                   | (go_at_call 61;(with_reducible refine((t.out m' rfl).call B _ thn _ _ _ u.out x D.out O (L.out.below (n.mono k) Zr)).mono ?_);rintro e w3 ⟨rfl,i⟩;obtain⟨P,Q⟩:=qK i;have f:Below d.heap.size d w3:=n.trans (i.mono (Nat.le_of_lt s));have y:B<=w3.heap.size:=(Nat.le_trans k f.size))
                   | (go_at_call 61;(with_reducible refine((t.out m' rfl).call B _ els _ _ _ u.out x E.out y (J.out.below (f.mono k) Zr)).mono ?_);rintro e w4 ⟨rfl,A⟩;have C:Below d.heap.size d w4:=f.trans (A.mono (Nat.le_trans (Nat.le_of_lt s) i.size))))
                  go_roundw
                  case rel=>exact⟨j+1,I7,by go_num,by rw[jk H.out,ab.out,I.out,ah.out,Y.out,ag.out,D.out,E.out,aq.out];simp[ad,Z],F.trans (C.mono G)⟩
                  case measure=>simp[intOf];omega
               exact OC
              .cases ai
               .have p:Hid (c=false):=by
                 unfold Hid;rw[<-M.out];exact zX H.out (by rw[I.out,D.out];simp)
                exact Oz
               .cases aj
                .have p:Hid (c=false):=by
                  unfold Hid;rw[<-M.out];exact zX H.out (by rw[I.out,E.out];simp)
                 exact OA
                .go_wp2_with (first
                  | (go_at_call 61;(with_reducible refine((t.out m' rfl).call B _ thn _ _ _ u.out x D.out O (L.out.below (n.mono k) Zr)).mono ?_);rintro e w3 ⟨rfl,i⟩;obtain⟨P,Q⟩:=qK i;have f:Below d.heap.size d w3:=n.trans (i.mono (Nat.le_of_lt s));have y:B<=w3.heap.size:=(Nat.le_trans k f.size))
                  | (go_at_call 61;(with_reducible refine((t.out m' rfl).call B _ els _ _ _ u.out x E.out y (J.out.below (f.mono k) Zr)).mono ?_);rintro e w4 ⟨rfl,A⟩;have C:Below d.heap.size d w4:=f.trans (A.mono (Nat.le_trans (Nat.le_of_lt s) i.size))))
                 go_roundw
                 case rel=>exact⟨j+1,I7,by go_num,by rw[jk H.out,ab.out,I.out,ah.out,Y.out,ag.out,D.out,E.out,aq.out];simp[ad],F.trans (C.mono G)⟩
                 case measure=>simp[intOf];omega
             exact OF
            .cases eb
             .by_cases Z:els.length=0
              .have al:¬0<els.length:=by omega
               replace J:Hid (SlS B d (.slice af 0 ak) els):=by have N:=J.out;rw[Z]at N;exact N
               cases ai
               .have p:Hid (c=false):=by
                 unfold Hid;rw[<-M.out];exact zX H.out (by rw[I.out,D.out];simp)
                exact Oz
               .cases aj
                .have p:Hid (c=false):=by
                  unfold Hid;rw[<-M.out];exact zX H.out (by rw[I.out,E.out];simp)
                 exact OA
                .go_wp2_with (first
                  | (go_at_call 61;(with_reducible refine((t.out m' rfl).call B _ thn _ _ _ u.out x D.out O (L.out.below (n.mono k) Zr)).mono ?_);rintro e w3 ⟨rfl,i⟩;obtain⟨P,Q⟩:=qK i;have f:Below d.heap.size d w3:=n.trans (i.mono (Nat.le_of_lt s));have y:B<=w3.heap.size:=(Nat.le_trans k f.size))
                  | (go_at_call 61;(with_reducible refine((t.out m' rfl).call B _ els _ _ _ u.out x E.out y (J.out.below (f.mono k) Zr)).mono ?_);rintro e w4 ⟨rfl,A⟩;have C:Below d.heap.size d w4:=f.trans (A.mono (Nat.le_trans (Nat.le_of_lt s) i.size))))
                 go_roundw
                 case rel=>exact⟨j+1,I7,by go_num,by rw[jk H.out,ab.out,I.out,ah.out,Y.out,ag.out,D.out,E.out,aq.out];simp[Z],F.trans (C.mono G)⟩
                 case measure=>simp[intOf];omega
              exact OC
             .cases ai
              .have p:Hid (c=false):=by
                unfold Hid;rw[<-M.out];exact zX H.out (by rw[I.out,D.out];simp)
               exact Oz
              .cases aj
               .have p:Hid (c=false):=by
                 unfold Hid;rw[<-M.out];exact zX H.out (by rw[I.out,E.out];simp)
                exact OA
               .go_wp2_with (first
                 | (go_at_call 61;(with_reducible refine((t.out m' rfl).call B _ thn _ _ _ u.out x D.out O (L.out.below (n.mono k) Zr)).mono ?_);rintro e w3 ⟨rfl,i⟩;obtain⟨P,Q⟩:=qK i;have f:Below d.heap.size d w3:=n.trans (i.mono (Nat.le_of_lt s));have y:B<=w3.heap.size:=(Nat.le_trans k f.size))
                 | (go_at_call 61;(with_reducible refine((t.out m' rfl).call B _ els _ _ _ u.out x E.out y (J.out.below (f.mono k) Zr)).mono ?_);rintro e w4 ⟨rfl,A⟩;have C:Below d.heap.size d w4:=f.trans (A.mono (Nat.le_trans (Nat.le_of_lt s) i.size))))
                go_roundw
                case rel=>exact⟨j+1,I7,by go_num,by rw[jk H.out,ab.out,I.out,ah.out,Y.out,ag.out,D.out,E.out,aq.out];simp,F.trans (C.mono G)⟩
                case measure=>simp[intOf];omega
          .have b4:(ap == 7)=false:=by simpa using aP
           have p:Hid (c=false):=by
            unfold Hid;rw[<-M.out];exact zX H.out (by rw[I.out,Y.out,aq.out];simp[aP])
           go_wp2_with (fail);go_ret;exact⟨zC p.out.symm,F.trans (n.mono G)⟩
         .have b3:(R == 10)=false:=by simpa using ao
          as_aux_lemma=>
           cases bb
           .by_cases ad:thn.length=0
            .have aV:¬0<thn.length:=by omega
             replace L:Hid (SlS B d (.slice am 0 an) thn):=by have N:=L.out;rw[ad]at N;exact N
             cases eb
             .by_cases Z:els.length=0
              .have al:¬0<els.length:=by omega
               replace J:Hid (SlS B d (.slice af 0 ak) els):=by have N:=J.out;rw[Z]at N;exact N
               cases ai
               .have p:Hid (c=false):=by
                 unfold Hid;rw[<-M.out];exact zX H.out (by rw[I.out,D.out];simp)
                exact Oz
               .cases aj
                .have p:Hid (c=false):=by
                  unfold Hid;rw[<-M.out];exact zX H.out (by rw[I.out,E.out];simp)
                 exact OA
                .go_wp2_with (first
                  | (go_at_call 61;(with_reducible refine((t.out m' rfl).call B _ thn _ _ _ u.out x D.out O (L.out.below (n.mono k) Zr)).mono ?_);rintro e w3 ⟨rfl,i⟩;obtain⟨P,Q⟩:=qK i;have f:Below d.heap.size d w3:=n.trans (i.mono (Nat.le_of_lt s));have y:B<=w3.heap.size:=(Nat.le_trans k f.size))
                  | (go_at_call 61;(with_reducible refine((t.out m' rfl).call B _ els _ _ _ u.out x E.out y (J.out.below (f.mono k) Zr)).mono ?_);rintro e w4 ⟨rfl,A⟩;have C:Below d.heap.size d w4:=f.trans (A.mono (Nat.le_trans (Nat.le_of_lt s) i.size))))
                 go_roundw
                 case rel=>exact⟨j+1,I7,by go_num,by rw[jk H.out,ab.out,I.out,ah.out,Y.out,ag.out,D.out,E.out];simp[ao,ad,Z],F.trans (C.mono G)⟩
                 case measure=>simp[intOf];omega
              exact OC
             .cases ai
              .have p:Hid (c=false):=by
                unfold Hid;rw[<-M.out];exact zX H.out (by rw[I.out,D.out];simp)
               exact Oz
              .cases aj
               .have p:Hid (c=false):=by
                 unfold Hid;rw[<-M.out];exact zX H.out (by rw[I.out,E.out];simp)
                exact OA
               .go_wp2_with (first
                 | (go_at_call 61;(with_reducible refine((t.out m' rfl).call B _ thn _ _ _ u.out x D.out O (L.out.below (n.mono k) Zr)).mono ?_);rintro e w3 ⟨rfl,i⟩;obtain⟨P,Q⟩:=qK i;have f:Below d.heap.size d w3:=n.trans (i.mono (Nat.le_of_lt s));have y:B<=w3.heap.size:=(Nat.le_trans k f.size))
                 | (go_at_call 61;(with_reducible refine((t.out m' rfl).call B _ els _ _ _ u.out x E.out y (J.out.below (f.mono k) Zr)).mono ?_);rintro e w4 ⟨rfl,A⟩;have C:Below d.heap.size d w4:=f.trans (A.mono (Nat.le_trans (Nat.le_of_lt s) i.size))))
                go_roundw
                case rel=>exact⟨j+1,I7,by go_num,by rw[jk H.out,ab.out,I.out,ah.out,Y.out,ag.out,D.out,E.out];simp[ao,ad],F.trans (C.mono G)⟩
                case measure=>simp[intOf];omega
            exact OF
           .cases eb
            .by_cases Z:els.length=0
             .have al:¬0<els.length:=by omega
              replace J:Hid (SlS B d (.slice af 0 ak) els):=by have N:=J.out;rw[Z]at N;exact N
              cases ai
              .have p:Hid (c=false):=by
                unfold Hid;rw[<-M.out];exact zX H.out (by rw[I.out,D.out];simp)
               exact Oz
              .cases aj
               .have p:Hid (c=false):=by
                 unfold Hid;rw[<-M.out];exact zX H.out (by rw[I.out,E.out];simp)
                exact OA
               .go_wp2_with (first
                 | (go_at_call 61;(with_reducible refine((t.out m' rfl).call B _ thn _ _ _ u.out x D.out O (L.out.below (n.mono k) Zr)).mono ?_);rintro e w3 ⟨rfl,i⟩;obtain⟨P,Q⟩:=qK i;have f:Below d.heap.size d w3:=n.trans (i.mono (Nat.le_of_lt s));have y:B<=w3.heap.size:=(Nat.le_trans k f.size))
                 | (go_at_call 61;(with_reducible refine((t.out m' rfl).call B _ els _ _ _ u.out x E.out y (J.out.below (f.mono k) Zr)).mono ?_);rintro e w4 ⟨rfl,A⟩;have C:Below d.heap.size d w4:=f.trans (A.mono (Nat.le_trans (Nat.le_of_lt s) i.size))))
                go_roundw
                case rel=>exact⟨j+1,I7,by go_num,by rw[jk H.out,ab.out,I.out,ah.out,Y.out,ag.out,D.out,E.out];simp[ao,Z],F.trans (C.mono G)⟩
                case measure=>simp[intOf];omega
             exact OC
            .cases ai
             .have p:Hid (c=false):=by
               unfold Hid;rw[<-M.out];exact zX H.out (by rw[I.out,D.out];simp)
              exact Oz
             .cases aj
              .have p:Hid (c=false):=by
                unfold Hid;rw[<-M.out];exact zX H.out (by rw[I.out,E.out];simp)
               exact OA
              .go_wp2_with (first
                | (go_at_call 61;(with_reducible refine((t.out m' rfl).call B _ thn _ _ _ u.out x D.out O (L.out.below (n.mono k) Zr)).mono ?_);rintro e w3 ⟨rfl,i⟩;obtain⟨P,Q⟩:=qK i;have f:Below d.heap.size d w3:=n.trans (i.mono (Nat.le_of_lt s));have y:B<=w3.heap.size:=(Nat.le_trans k f.size))
                | (go_at_call 61;(with_reducible refine((t.out m' rfl).call B _ els _ _ _ u.out x E.out y (J.out.below (f.mono k) Zr)).mono ?_);rintro e w4 ⟨rfl,A⟩;have C:Below d.heap.size d w4:=f.trans (A.mono (Nat.le_trans (Nat.le_of_lt s) i.size))))
               go_roundw
               case rel=>exact⟨j+1,I7,by go_num,by rw[jk H.out,ab.out,I.out,ah.out,Y.out,ag.out,D.out,E.out];simp[ao],F.trans (C.mono G)⟩
               case measure=>simp[intOf];omega
  .go_wp2_with (fail)
   go_ret;refine⟨zC ?_,F⟩;rw[<-M.out,<-ab.out,List.take_of_length_le I7]
theorem rstmts_all:∀m,RsC m
 | 0=>rstmts_step 0 (fun _ h=>I7)
 | m+1=>rstmts_step (m+1) (fun m' h=>by
    obtain rfl:m'=m:=I7
    exact rstmts_all m')
theorem rstmts_any(B:Nat)(l:List St)(b:Bool)(c:stsOK l 100=b)(v:Value)(w:World)(a:B<=w.heap.size)(d:SlS B w v l):
 Calls Tryz.prog 61 #[v,.int .i64 100] w fun e w'=>e=.returned (.bool b)/\Below w.heap.size w w':=(rstmts_all 100).call B _ l b v w rfl I7 c a d
theorem yU(t:Int)(b:Bool)(h:ud t=b)(w:World):Calls Tryz.prog 60 #[.int .i64 t] w fun e w'=>e=.returned (.bool b)/\w=w':=by
 subst h;go_enter Tryz.func60,Tryz.ntmps60;go_wp2_with (fail)
 all_goals go_ret
 all_goals refine⟨zC ?_,rfl⟩
 all_goals go_light
 all_goals(unfold ud;rw[Bool.eq_iff_iff];simp_all)
theorem rright_any(B:Nat)(p:Pr)(c:Bool)(aw:prOK p=c)(v v':Value)(w:World)(aq:B<=w.heap.size)(U:SlA B w v p.arrays)(X:SlF B w v' p.funcs):
 Calls Tryz.prog 28 #[.agg #[v,v']] w fun e w'=>e=.returned (.bool c)/\Below w.heap.size w w':=by
 obtain⟨u,A,rfl,a2⟩:=U.form;obtain⟨y,C,rfl,a3⟩:=X.form;have az:=hid U;have aB:=hid X;have z:=hid aw
 have ah:∀wr,Below (w.heap.size+1) (w.alloc (.cells #[.slice u p.arrays.length A,.slice y p.funcs.length C] 27)) wr->wr.cell? ⟨w.heap.size,0,none⟩=some (.slice u p.arrays.length A)/\wr.cell? ⟨w.heap.size,1,none⟩=some (.slice y p.funcs.length C):=fun wr D=>by
  have F:wr.heap[w.heap.size]? =some (.cells #[.slice u p.arrays.length A,.slice y p.funcs.length C] 27 (0,0)):=(D.block _ I7).trans (heap_alloc_new w _);exact⟨by rw[Lib.cell_of_heap F];rfl,by rw[Lib.cell_of_heap F];rfl⟩
 have ag:=hid ah;clear U X aw ah;go_enter Tryz.func28,Tryz.ntmps28;go_wp2_with (fail)
 go_loopw [3] (fun iv wr=>∃j:Nat,j<=p.arrays.length/\iv=.int .i64 j/\(p.arrays.take j).all vC=true/\Below (w.heap.size+1) (w.alloc (.cells #[.slice u p.arrays.length A,.slice y p.funcs.length C] 27)) wr) (fun iv _=>p.arrays.length-(intOf iv).toNat)
 case atStart=>exact⟨0,Nat.zero_le _,rfl,rfl,Below.refl _ _⟩
 case round=>
  obtain⟨j,a0,rfl,ar,E⟩:=hrel;have O:=hid ar;clear ar;have a9:w.heap.size+1<=wr.heap.size:=by have:=E.size;simpa using this
  have M:Below w.heap.size w wr:=(Zb.alloc Zr _).trans (E.mono I7);have aX:B<=wr.heap.size:=I7
  have a5:w.heap.size<wr.heap.size:=I7
  obtain⟨ba,bb⟩:=ag.out wr E;by_cases aN:j<p.arrays.length
  .obtain⟨x,r⟩:∃e,p.arrays[j]? =some e:=⟨_,List.getElem?_eq_getElem aN⟩
   obtain⟨g,o,rfl,aK,aQ,aR⟩:=(az.out.below (M.mono aq) Zr).cells r;have n:=hid r;have aL:g<wr.heap.size:=I7
   obtain⟨I,t⟩:∃b,vd x.name=b:=⟨_,rfl⟩
   have d:=hid t;clear r t;cases I
   .go_wp2_with (go_at_call 50;(with_reducible refine(qJ x.name _ d.out _).mono ?_);rintro e a ⟨rfl,rfl⟩)
    go_ret;exact⟨zC (by rw[<-z.out];unfold prOK;rw[xJ vC n.out (by unfold vC;rw[d.out];rfl)];rfl),M⟩
   .by_cases aU:x.size<1
    .go_wp2_with (go_at_call 50;(with_reducible refine(qJ x.name _ d.out _).mono ?_);rintro e a ⟨rfl,rfl⟩)
     exact OG
    .by_cases aV:1000<x.size
     .go_wp2_with (go_at_call 50;(with_reducible refine(qJ x.name _ d.out _).mono ?_);rintro e a ⟨rfl,rfl⟩)
      exact OG
     .have aE:Hid (vC x=true):=by unfold Hid vC;rw[d.out];simp;omega
      go_wp2_with (go_at_call 50;(with_reducible refine(qJ x.name _ d.out _).mono ?_);rintro e a ⟨rfl,rfl⟩);go_roundw
      case rel=>exact⟨j+1,I7,by go_num,by rw[yT vC n.out,O.out,aE.out];rfl,E⟩
      case measure=>simp[intOf];omega
  .have aA:Hid (p.arrays.all vC=true):=by unfold Hid;rw[<-O.out,List.take_of_length_le I7]
   clear O;go_wp2_with (fail)
   go_loopw [4] (fun iv aT=>∃j:Nat,j<=p.funcs.length/\iv=.int .i64 j/\(p.funcs.take j).all yF=true/\Below (w.heap.size+1) (w.alloc (.cells #[.slice u p.arrays.length A,.slice y p.funcs.length C] 27)) aT) (fun iv _=>p.funcs.length-(intOf iv).toNat)
   case atStart=>exact⟨0,Nat.zero_le _,rfl,rfl,E⟩
   case round=>
    obtain⟨ab,a1,rfl,au,K⟩:=hrel;have ae:=hid au;clear au;have aP:w.heap.size+1<=wr.heap.size:=by have:=K.size;simpa using this
    have k:Below w.heap.size w wr:=(Zb.alloc Zr _).trans (K.mono I7);have T:B<=wr.heap.size:=I7
    have a6:w.heap.size<wr.heap.size:=I7
    obtain⟨bc,bd⟩:=ag.out wr K;by_cases aO:ab<p.funcs.length
    .obtain⟨x,r⟩:∃e,p.funcs[ab]? =some e:=⟨_,List.getElem?_eq_getElem aO⟩
     obtain⟨g,o,bj,bk,rfl,aK,aQ,aR,bf,bg,Y,D⟩:=(aB.out.below (k.mono aq) Zr).cells r;obtain⟨N,S,rfl,a4⟩:=Y.form;obtain⟨ad,ao,rfl,_⟩:=D.form;have n:=hid r;have aF:=hid Y;have ai:=hid D;have aL:g<wr.heap.size:=I7
     obtain⟨I,t⟩:∃b,vd x.name=b:=⟨_,rfl⟩
     obtain⟨ak,V⟩:∃b,ud x.type=b:=⟨_,rfl⟩
     obtain⟨al,W⟩:∃b,stsOK x.body 100=b:=⟨_,rfl⟩
     have m:Hid (yF x=(I && ak && decide (x.params.length<=8) && x.params.all vg && al)):=by unfold Hid yF;rw[t,V,W]
     have d:=hid t;have H:=hid V;have aj:=hid W;clear r t V W Y D;have s:Hid (yF x=false->c=false):=fun aI=>by rw[<-z.out];unfold prOK;rw[xJ yF n.out aI];simp
     cases I
     .have f:Hid (c=false):=s.out (by rw[m.out];rfl)
      go_wp2_with (go_at_call 50;(with_reducible refine(qJ x.name _ d.out _).mono ?_);rintro e a ⟨rfl,rfl⟩);go_ret;exact⟨zC f.out.symm,k.alloc I7 _⟩
     .cases ak
      .have f:Hid (c=false):=s.out (by rw[m.out];rfl)
       exact OE
      .by_cases ap:x.params.length<=8
       .have aJ:¬8<x.params.length:=by omega
        cases al
        .have f:Hid (c=false):=s.out (by rw[m.out];simp)
         go_wp2_with (first
          | (go_at_call 50;(with_reducible refine(qJ x.name _ d.out _).mono ?_);rintro e a ⟨rfl,rfl⟩)
          | (go_at_call 60;(with_reducible refine(yU x.type _ H.out _).mono ?_);rintro e a ⟨rfl,rfl⟩)
          | (go_at_call 61;(with_reducible refine(rstmts_any B x.body _ aj.out _ _ I9 (ai.out.below (Zb.alloc T _) Zr)).mono ?_);rintro e a ⟨rfl,Z⟩))
         go_ret;exact⟨zC f.out.symm,(k.alloc I7 _).trans (Z.mono I9)⟩
        .go_wp2_with (first
          | (go_at_call 50;(with_reducible refine(qJ x.name _ d.out _).mono ?_);rintro e a ⟨rfl,rfl⟩)
          | (go_at_call 60;(with_reducible refine(yU x.type _ H.out _).mono ?_);rintro e a ⟨rfl,rfl⟩)
          | (go_at_call 61;(with_reducible refine(rstmts_any B x.body _ aj.out _ _ I9 (ai.out.below (Zb.alloc T _) Zr)).mono ?_);rintro e a ⟨rfl,Z⟩))
         obtain⟨i,rfl⟩:∃i,i=wr:=⟨_,rfl⟩
         go_loopw [6] (fun iv aS=>∃q:Nat,q<=x.params.length/\iv=.int .i64 q/\(x.params.take q).all vg=true/\Below (i.heap.size+1) (i.alloc (.cells #[.string x.name,.int .i64 x.type,.slice N x.params.length S,.slice ad x.body.length ao] 93)) aS) (fun iv _=>x.params.length-(intOf iv).toNat)
         case atStart=>exact⟨0,Nat.zero_le _,rfl,rfl,Z.mono Ia⟩
         case round=>
          obtain⟨q,a7,rfl,av,J⟩:=hrel;have af:=hid av;clear av;have a8:i.heap.size<wr.heap.size:=by have aW:i.heap.size+1<=wr.heap.size:=(by have:=J.size;simpa using this);omega
          have L:Below i.heap.size i wr:=(Zb.alloc Zr _).trans (J.mono I7);have F:wr.heap[i.heap.size]? =some (.cells #[.string x.name,.int .i64 x.type,.slice N x.params.length S,.slice ad x.body.length ao] 93 (0,0)):=(J.block _ I7).trans (heap_alloc_new i _);have bl:wr.cell? ⟨i.heap.size,2,none⟩=some (.slice N x.params.length S):=by rw[Lib.cell_of_heap F];rfl
          clear F;by_cases aM:q<x.params.length
          .obtain⟨l,aa⟩:∃e,x.params[q]? =some e:=⟨_,List.getElem?_eq_getElem aM⟩
           obtain⟨aH,be,rfl,aY,bh,bi⟩:=(aF.out.below (L.mono T) Zr).cells aa;have R:=hid aa;have aZ:aH<wr.heap.size:=I7
           obtain⟨am,ax⟩:∃b,vd l.name=b:=⟨_,rfl⟩
           obtain⟨an,ay⟩:∃b,ud l.type=b:=⟨_,rfl⟩
           have G:=hid ax;have Q:=hid ay;clear aa ax ay;have P:Hid (vg l=(am && an)):=by unfold Hid vg;rw[G.out,Q.out]
           cases am
           .have f:Hid (c=false):=s.out (by rw[m.out,xJ vg R.out (by rw[P.out];rfl)];simp)
            go_wp2_with (go_at_call 50;(with_reducible refine(qJ l.name _ G.out _).mono ?_);rintro e a ⟨rfl,rfl⟩);go_ret;exact⟨zC f.out.symm,k.trans (L.mono I7)⟩
           .cases an
            .have f:Hid (c=false):=s.out (by rw[m.out,xJ vg R.out (by rw[P.out];rfl)];simp)
             go_wp2_with (first
              | (go_at_call 50;(with_reducible refine(qJ l.name _ G.out _).mono ?_);rintro e a ⟨rfl,rfl⟩)
              | (go_at_call 60;(with_reducible refine(yU l.type _ Q.out _).mono ?_);rintro e a ⟨rfl,rfl⟩))
             go_ret;exact⟨zC f.out.symm,k.trans (L.mono I7)⟩
            .go_wp2_with (first
              | (go_at_call 50;(with_reducible refine(qJ l.name _ G.out _).mono ?_);rintro e a ⟨rfl,rfl⟩)
              | (go_at_call 60;(with_reducible refine(yU l.type _ Q.out _).mono ?_);rintro e a ⟨rfl,rfl⟩))
             go_roundw
             case rel=>exact⟨q+1,I7,by go_num,by rw[yT vg R.out,af.out,P.out];rfl,J⟩
             case measure=>simp[intOf];omega
          .have aG:Hid (x.params.all vg=true):=by unfold Hid;rw[<-af.out,List.take_of_length_le I7]
           have aD:Hid (yF x=true):=by unfold Hid;rw[m.out,aG.out];simp[ap]
           go_wp2_with (fail);go_roundw
           case rel=>exact⟨ab+1,I7,by go_num,by rw[yT yF n.out,ae.out,aD.out];rfl,K.trans (L.mono aP)⟩
           case measure=>simp[intOf];omega
       .have aJ:8<x.params.length:=by omega
        have f:Hid (c=false):=s.out (by rw[m.out];simp[ap])
        exact OE
    .have aC:Hid (p.funcs.all yF=true):=by unfold Hid;rw[<-ae.out,List.take_of_length_le I7]
     go_wp2_with (fail);go_ret;exact⟨zC (by rw[<-z.out];unfold prOK;rw[aA.out,aC.out];rfl),k⟩
end Go.Proofs.YthcmenajdcbnnaaGreatDoor
