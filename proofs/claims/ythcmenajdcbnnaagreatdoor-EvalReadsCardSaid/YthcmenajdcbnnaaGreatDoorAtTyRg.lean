import Derived.Test.YthcmenajdcbnnaaGreatDoorAtParBlk
set_option linter.unusedSimpArgs false
set_option linter.unusedVariables false
set_option maxRecDepth 100000
set_option maxHeartbeats 99000000
/- The document's globals: the names of arrays and functions, and main. -/
namespace Go.Proofs.YthcmenajdcbnnaaGreatDoor
open Lib (hid)
open Go.RowKit
theorem Ox{p:Prop}(h:p:=by
 rw[Lib.toList_data,Lib.size_eq];exact List.length_eq_zero_iff.symm):p:=h
theorem idxA_lt{s:ByteArray}:∀{l:List Ar} {k:Nat},zb l s=some k->∃f,l[k]? =some f/\f.name=s/\∀(i:Nat) g,i<k->l[i]? =some g->g.name≠s
 | [],_,a=>Ii
 | f::r,k,a=>by
   rw[zb]at a;split at a
   .rename_i e
    injection a with a;subst a;exact⟨f,rfl,e,fun i g c=>absurd c I7⟩
   .rename_i e
    cases hr:zb r s with
    | none=>rw[hr]at a;cases a
    | some j=>
      rw[hr]at a;obtain rfl:j+1=k:=Io
      obtain⟨g,d,h,m⟩:=idxA_lt hr;refine⟨g,Ir,h,fun i x c b=>?_⟩;cases i with
      | zero=>simp at b;subst b;exact e
      | succ i=>exact m i x I7 Ih
def frF(l:List Fu):Prop:=∀(i:Nat) f,l[i]? =some f->jF l f.name=some i
theorem dupF_iff:∀{l:List Fu},dupF l=false↔frF l
 | []=>⟨fun _ i f b=>by simp at b,fun _=>rfl⟩
 | x::r=>by
   rw[dupF,Bool.or_eq_false_iff,dupF_iff (l:=r)];constructor
   .rintro⟨d,h⟩ i f a
    cases i with
    | zero=>simp at a;subst a;rw[jF,if_pos rfl]
    | succ i=>
      have g:r[i]? =some f:=Io
      have k:=h i f g
      have c:¬x.name=f.name:=fun e=>by
       rw[kd,List.any_eq_false]at d;exact d f (List.mem_of_getElem? g) (by simp[e])
      rw[jF,if_neg c,k];rfl
   .intro b
    refine⟨?_,fun i f a=>?_⟩
    .rw[kd,List.any_eq_false]
     intro f m;obtain⟨i,a⟩:=List.getElem?_of_mem m;have:=b (i+1) f Io;rw[jF]at this;split at this
     .cases this
     .rename_i c
      simp;exact fun e=>c e.symm
    .have:=b (i+1) f Io
     rw[jF]at this;split at this
     .cases this
     .cases hr:jF r f.name with
      | none=>rw[hr]at this;cases this
      | some j=>
        rw[hr]at this;have:j=i:=QW
        rw[this]
def frA(p:Pr)(l:List Ar):Prop:=∀(i:Nat) f,l[i]? =some f->zb l f.name=some i/\jF p.funcs f.name=none
theorem dupA_iff(p:Pr):∀{l:List Ar},dupA p l=false↔frA p l
 | []=>⟨fun _ i f b=>by simp at b,fun _=>rfl⟩
 | x::r=>by
   rw[dupA,Bool.or_eq_false_iff,Bool.or_eq_false_iff,dupA_iff p (l:=r)];constructor
   .rintro⟨⟨d,h⟩,k⟩ i f a
    cases i with
    | zero=>simp at a;subst a;exact⟨by rw[zb,if_pos rfl],IM⟩
    | succ i=>
      have g:r[i]? =some f:=Io
      obtain⟨m,o⟩:=k i f g
      have c:¬x.name=f.name:=fun e=>by
       rw[xd,List.any_eq_false]at d;exact d f (List.mem_of_getElem? g) (by simp[e])
      exact⟨by rw[zb,if_neg c,m];rfl,o⟩
   .intro b
    refine⟨⟨?_,?_⟩,fun i f a=>⟨?_,(b (i+1) f Io).2⟩⟩
    .rw[xd,List.any_eq_false]
     intro f q;obtain⟨i,a⟩:=List.getElem?_of_mem q;have:=(b (i+1) f Io).1;rw[zb]at this;split at this
     .cases this
     .rename_i c
      simp;exact fun e=>c e.symm
    .have:=(b 0 x rfl).2
     simp[this]
    .have:=(b (i+1) f Io).1
     rw[zb]at this;split at this
     .cases this
     .cases hr:zb r f.name with
      | none=>rw[hr]at this;cases this
      | some j=>
        rw[hr]at this;have:j=i:=QW
        rw[this]
theorem tl_nil(s:ByteArray):s.toList=[]↔s.size=0:=by
 exact Ox
section
variable (B:Nat) (op n:Int) (name:ByteArray) (A:Option Addr) (m cap:Nat) (w:World)
theorem rightExpr_plain(k:Int)(a:k=1\/k=2\/k=4\/k=8):
 Calls Tryz.prog 152 #[.agg #[.int .i64 k,.int .i64 op,.int .i64 n,.string name,.slice A m cap]] w fun e w'=>e=.returned (.bool (zj k op n name m))/\Below w.heap.size w w':=by
 rcases a with rfl|rfl|rfl|rfl
 all_goals
  go_enter Tryz.func152,Tryz.ntmps152;go_wp2_with (fail)
  all_goals go_ret
  all_goals refine⟨zC ?_,(Zb.alloc Zr _).alloc Ia _⟩
  all_goals go_light
  all_goals simp_all [zj,eB,tl_nil]
 all_goals omega
theorem rightExpr_named(k:Int)(g:k=3\/k=6\/k=7)(b:Bool)(c:vd name=b):
 Calls Tryz.prog 152 #[.agg #[.int .i64 k,.int .i64 op,.int .i64 n,.string name,.slice A m cap]] w fun e w'=>e=.returned (.bool (zj k op n name m))/\Below w.heap.size w w':=by
 have a:=hid c;clear c;cases b
 all_goals rcases g with rfl|rfl|rfl
 all_goals
  go_enter Tryz.func152,Tryz.ntmps152;go_wp2_with (go_at_call 106;(with_reducible refine(nm_is name _ a.out _).mono ?_);rintro e l ⟨rfl,d⟩;obtain⟨i,j⟩:=qK d)
  all_goals go_ret
  all_goals refine⟨zC ?_,((Zb.alloc Zr _).alloc Ia _).trans (d.mono I9)⟩
  all_goals have h:=a.out
  all_goals go_light
  all_goals simp_all [zj]
 all_goals omega
theorem rightExpr_two(b:TreeTab B w)(d:B<=w.heap.size):
 Calls Tryz.prog 152 #[.agg #[.int .i64 5,.int .i64 op,.int .i64 n,.string name,.slice A m cap]] w fun e w'=>e=.returned (.bool (zj 5 op n name m))/\Below w.heap.size w w':=by
 have c:=hid b;clear b;go_enter Tryz.func152,Tryz.ntmps152;go_wp2_with (go_at_call 161;(with_reducible refine(level_any op _ (c.out.below ((Zb.alloc d _).alloc I9 _)).rows).mono ?_);rintro e i ⟨rfl,a⟩;obtain⟨g,h⟩:=qK a)
 all_goals go_ret
 all_goals refine⟨zC ?_,((Zb.alloc Zr _).alloc Ia _).trans (a.mono I9)⟩
 all_goals go_light
 all_goals simp_all [zj,eB,tl_nil]
 all_goals omega
theorem rightExpr_other(k:Int)(b:k<1\/8<k):
 Calls Tryz.prog 152 #[.agg #[.int .i64 k,.int .i64 op,.int .i64 n,.string name,.slice A m cap]] w fun e w'=>e=.returned (.bool (zj k op n name m))/\Below w.heap.size w w':=by
 have n1:(k == 1)=false:=I9
 have n2:(k == 2)=false:=I9
 have c:(k == 3)=false:=I9
 have d:(k == 4)=false:=I9
 have g:(k == 5)=false:=I9
 have h:(k == 6)=false:=I9
 have i:(k == 7)=false:=I9
 have j:(k == 8)=false:=I9
 have a:Hid (zj k op n name m=false):=by
  unfold Hid zj;rw[if_neg I7,if_neg I7,if_neg I7,if_neg I7,if_neg I7,if_neg I7,if_neg I7,if_neg I7]
 clear b;go_enter Tryz.func152,Tryz.ntmps152;go_wp2_with (fail);go_ret;exact⟨zC a.out.symm,(Zb.alloc Zr _).alloc Ia _⟩
theorem rightExpr_any(k:Int)(g:TreeTab B w)(d:B<=w.heap.size):
 Calls Tryz.prog 152 #[.agg #[.int .i64 k,.int .i64 op,.int .i64 n,.string name,.slice A m cap]] w fun e w'=>e=.returned (.bool (zj k op n name m))/\Below w.heap.size w w':=by
 by_cases a:k=1\/k=2\/k=4\/k=8
 .exact rightExpr_plain op n name A m cap w k a
 by_cases b:k=3\/k=6\/k=7
 .exact rightExpr_named op n name A m cap w k b _ rfl
 by_cases c:k=5
 .subst c
  exact rightExpr_two B op n name A m cap w g d
 .exact rightExpr_other op n name A m cap w k I7
end
theorem uG(B:Nat)(k op n:Int)(name:ByteArray)(A:Option Addr)(m cap:Nat)(b:Bool)(c:zj k op n name m=b)(w:World)(d:TreeTab B w)(a:B<=w.heap.size):
 Calls Tryz.prog 152 #[.agg #[.int .i64 k,.int .i64 op,.int .i64 n,.string name,.slice A m cap]] w fun e w'=>e=.returned (.bool b)/\Below w.heap.size w w':=
 c ▸ rightExpr_any B op n name A m cap w k d a
def ExsC(k:Nat):Prop:=∀(B:Nat) (d:Int) (l:List Ex) (b:Bool) (v:Value) (w:World),0<=d->d+k=101->qC l k=b->TreeTab B w->B<=w.heap.size->xL B w v l->
 Calls Tryz.prog 133 #[v,.int .i64 d] w fun e w'=>e=.returned (.bool b)/\Below w.heap.size w w'
theorem ExsC.call{k:Nat}(a:ExsC k)(B:Nat)(d:Int)(l:List Ex)(b:Bool)(v:Value)(w:World)(c:0<=d)(i:d+k=101)(h:qC l k=b)(m:TreeTab B w)(g:B<=w.heap.size)(j:xL B w v l):
 Calls Tryz.prog 133 #[v,.int .i64 d] w fun e w'=>e=.returned (.bool b)/\Below w.heap.size w w':=a B d l b v w c i h m g j
theorem uS(k:Nat)(Y:∀i,i+1=k->ExsC i):ExsC k:=by
 intro B d l b v w ap T R X m G;have aq:d<=101:=I7
 have y:=hid T;clear T;obtain⟨A,cap,rfl,aw⟩:=G.form;have p:=hid X;have ab:=hid G;have t:=hid R;have M:=hid Y;clear X G R Y;go_enter Tryz.func133,Tryz.ntmps133;go_wp2_with (fail)
 go_loopw [9] (fun iv wr=>∃j:Nat,j<=l.length/\iv=.int .i64 j/\qC (l.take j) k=true/\Below w.heap.size w wr) (fun iv _=>l.length-(intOf iv).toNat)
 case atStart=>exact⟨0,Nat.zero_le _,rfl,vK _,Below.refl _ _⟩
 case round=>
  obtain⟨j,av,rfl,Q,h⟩:=hrel;have J:=hid Q;clear Q;have r:=h.size;by_cases af:j<l.length
  .obtain⟨⟨Z,op,n,name,args⟩,F⟩:∃e,l[j]? =some e:=⟨_,List.getElem?_eq_getElem af⟩
   have u:=hid F;obtain⟨g,o,v,rfl,ar,ak,al,am,an,ao,H⟩:=(ab.out.below (h.mono m) Zr).cells F;obtain⟨ai,aj,rfl,ax⟩:=H.form;have N:=hid H;have au:g<wr.heap.size:=I7
   have E:=h.mono m;have q:B<=wr.heap.size:=Nat.le_trans m r;clear F H;rcases k with _|i
   .have ae:decide ((100 :Int)<d)=true:=by have:=y.out;simp;omega
    have ad:Hid (qC l 0=false):=yK u.out (by rw[kf];simp);go_wp2_with (fail);go_ret;exact⟨zC (by rw[<-t.out,ad.out]),h.alloc r _⟩
   .have ae:decide ((100 :Int)<d)=false:=by have:=y.out;simp;omega
    have U:(d+1)+(i:Int)=101:=by have:=y.out;omega
    have V:0<=d+1:=I7
    have L:=hid U;clear U;obtain⟨O,C⟩:∃b,zj Z op n name args.length=b:=⟨_,rfl⟩
    obtain⟨P,D⟩:∃b,qC args i=b:=⟨_,rfl⟩
    have z:Hid (vJ (.mk Z op n name args) (i+1)=(O && P)):=by
     unfold Hid;rw[kf,C,Nat.add_sub_cancel,D];simp
    have x:=hid C;have K:=hid D;clear C D;cases O
    .go_wp2_with (go_at_call 152;(with_reducible refine(uG B _ _ _ _ _ _ _ _ x.out _ (p.out.below (E.alloc q _)) I9).mono ?_);rintro e aa ⟨rfl,a⟩;obtain⟨S,W⟩:=qK a)
     go_ret;exact⟨zC Ux,(h.alloc r _).trans (a.mono I9)⟩
    .cases P
     .go_wp2_with (first
       | (go_at_call 152;(with_reducible refine(uG B _ _ _ _ _ _ _ _ x.out _ (p.out.below (E.alloc q _)) I9).mono ?_);rintro e aa ⟨rfl,a⟩;obtain⟨S,W⟩:=qK a;have ag:=a.size;have c:=(h.alloc r _).trans (a.mono I9))
       | (go_at_call 133;(with_reducible refine((M.out i rfl).call B _ args _ _ _ V L.out K.out (p.out.below (c.mono m)) (Nat.le_trans m c.size) (N.out.below (Zb.alloc q _ |>.trans (a.mono I9)) Zr)).mono ?_);rintro e ah ⟨rfl,I⟩))
      go_ret;exact⟨zC Ux,c.trans (I.mono c.size)⟩
     .go_wp2_with (first
       | (go_at_call 152;(with_reducible refine(uG B _ _ _ _ _ _ _ _ x.out _ (p.out.below (E.alloc q _)) I9).mono ?_);rintro e aa ⟨rfl,a⟩;obtain⟨S,W⟩:=qK a;have ag:=a.size;have c:=(h.alloc r _).trans (a.mono I9))
       | (go_at_call 133;(with_reducible refine((M.out i rfl).call B _ args _ _ _ V L.out K.out (p.out.below (c.mono m)) (Nat.le_trans m c.size) (N.out.below (Zb.alloc q _ |>.trans (a.mono I9)) Zr)).mono ?_);rintro e ah ⟨rfl,I⟩))
      go_roundw
      case rel=>exact⟨j+1,I7,by go_num,by rw[exsOK_take u.out,J.out,z.out];rfl,c.trans (I.mono c.size)⟩
      case measure=>simp[intOf];omega
  .go_wp2_with (fail)
   go_ret;refine⟨zC ?_,h⟩;rw[<-t.out,<-J.out,List.take_of_length_le I7]
theorem uw:∀k,ExsC k
 | 0=>uS 0 (fun _ b=>I7)
 | k+1=>uS (k+1) (fun a b=>by
    obtain rfl:a=k:=I7
    exact uw a)
theorem rightExprs_any(B:Nat)(l:List Ex)(b:Bool)(c:qC l 100=b)(v:Value)(w:World)(g:TreeTab B w)(a:B<=w.heap.size)(d:xL B w v l):
 Calls Tryz.prog 133 #[v,.int .i64 1] w fun e w'=>e=.returned (.bool b)/\Below w.heap.size w w':=uw 100 B 1 l b v w I8 I8 c g a d
theorem rightType_any(t:Int)(w:World):Calls Tryz.prog 107 #[.int .i64 t] w fun e w'=>e=.returned (.bool (ud t))/\w=w':=by
 go_enter Tryz.func107,Tryz.ntmps107;go_wp2_with (fail)
 all_goals go_ret
 all_goals refine⟨zC ?_,rfl⟩
 all_goals go_light
 all_goals(unfold ud;rw[Bool.eq_iff_iff];simp_all)
theorem kO(t:Int)(b:Bool)(a:ud t=b)(w:World):Calls Tryz.prog 107 #[.int .i64 t] w fun e w'=>e=.returned (.bool b)/\w=w':=a ▸ rightType_any t w
theorem tl_nil'(s:ByteArray):s.toList=[]↔s.size=0:=by
 exact Ox
section
variable (ty:Int) (name:ByteArray) (A1 A2 A3:Option Addr) (m1 m2 m3 c1 c2 c3:Nat) (w:World)
theorem rightStmt_plain(k:Int)(b:Bool)(a:k=4\/k=5\/k=6\/k=7\/k=8\/k=9):
 Calls Tryz.prog 132 #[.agg #[.int .i64 k,.int .i64 ty,.string name,.slice A1 m1 c1,.slice A2 m2 c2,.slice A3 m3 c3]] w fun e w'=>e=.returned (.bool (zr k ty name m1 m2 m3 b))/\Below w.heap.size w w':=by
 rcases a with rfl|rfl|rfl|rfl|rfl|rfl
 all_goals
  go_enter Tryz.func132,Tryz.ntmps132;go_wp2_with (fail)
  all_goals go_ret
  all_goals refine⟨zC ?_,(Zb.alloc Zr _).alloc Ia _⟩
  all_goals go_light
  all_goals simp_all [zr,eB,tl_nil']
 all_goals omega
theorem rightStmt_named(k:Int)(h:Bool)(g:k=2\/k=3)(b:Bool)(c:vd name=b):
 Calls Tryz.prog 132 #[.agg #[.int .i64 k,.int .i64 ty,.string name,.slice A1 m1 c1,.slice A2 m2 c2,.slice A3 m3 c3]] w fun e w'=>e=.returned (.bool (zr k ty name m1 m2 m3 h))/\Below w.heap.size w w':=by
 have a:=hid c;clear c;cases b
 all_goals rcases g with rfl|rfl
 all_goals
  go_enter Tryz.func132,Tryz.ntmps132;go_wp2_with (go_at_call 106;(with_reducible refine(nm_is name _ a.out _).mono ?_);rintro e m ⟨rfl,d⟩;obtain⟨j,l⟩:=qK d)
  all_goals go_ret
  all_goals refine⟨zC ?_,((Zb.alloc Zr _).alloc Ia _).trans (d.mono I9)⟩
  all_goals have i:=a.out
  all_goals go_light
  all_goals simp_all [zr]
 all_goals omega
theorem rightStmt_let(l:Bool)(b d:Bool)(g:vd name=b)(i:ud ty=d):
 Calls Tryz.prog 132 #[.agg #[.int .i64 1,.int .i64 ty,.string name,.slice A1 m1 c1,.slice A2 m2 c2,.slice A3 m3 c3]] w fun e w'=>e=.returned (.bool (zr 1 ty name m1 m2 m3 l))/\Below w.heap.size w w':=by
 have c:=hid g;have a:=hid i;clear g i;cases d
 .go_enter Tryz.func132,Tryz.ntmps132
  go_wp2_with (go_at_call 107;(with_reducible refine(kO ty _ a.out _).mono ?_);rintro e j ⟨rfl,rfl⟩);go_ret;refine⟨zC ?_,(Zb.alloc Zr _).alloc Ia _⟩;have k:=a.out
  go_light
  simp_all [zr]
 .cases b
  all_goals
   go_enter Tryz.func132,Tryz.ntmps132
   go_wp2_with (first
    | (go_at_call 107;(with_reducible refine(kO ty _ a.out _).mono ?_);rintro e j ⟨rfl,rfl⟩)
    | (go_at_call 106;(with_reducible refine(nm_is name _ c.out _).mono ?_);rintro e j ⟨rfl,h⟩;obtain⟨o,p⟩:=qK h))
   all_goals go_ret
   all_goals refine⟨zC ?_,((Zb.alloc Zr _).alloc Ia _).trans (h.mono I9)⟩
   all_goals have k:=c.out
   all_goals have m:=a.out
   all_goals go_light
   all_goals simp_all [zr]
  all_goals omega
theorem rightStmt_other(k:Int)(a:Bool)(c:k<1\/10<k):
 Calls Tryz.prog 132 #[.agg #[.int .i64 k,.int .i64 ty,.string name,.slice A1 m1 c1,.slice A2 m2 c2,.slice A3 m3 c3]] w fun e w'=>e=.returned (.bool (zr k ty name m1 m2 m3 a))/\Below w.heap.size w w':=by
 have n1:(k == 1)=false:=I9
 have n2:(k == 2)=false:=I9
 have g:(k == 3)=false:=I9
 have h:(k == 4)=false:=I9
 have i:(k == 5)=false:=I9
 have j:(k == 6)=false:=I9
 have l:(k == 7)=false:=I9
 have m:(k == 8)=false:=I9
 have o:(k == 9)=false:=I9
 have d:(k == 10)=false:=I9
 have b:Hid (zr k ty name m1 m2 m3 a=false):=by
  unfold Hid zr;rw[if_neg I7,if_neg I7,if_neg I7,if_neg I7,if_neg I7,if_neg I7,if_neg I7,if_neg I7]
 clear c;go_enter Tryz.func132,Tryz.ntmps132;go_wp2_with (fail);go_ret;exact⟨zC b.out.symm,(Zb.alloc Zr _).alloc Ia _⟩
end
end Go.Proofs.YthcmenajdcbnnaaGreatDoor
