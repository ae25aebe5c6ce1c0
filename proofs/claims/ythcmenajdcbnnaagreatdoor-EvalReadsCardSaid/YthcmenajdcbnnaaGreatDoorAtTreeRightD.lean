import Derived.Test.YthcmenajdcbnnaaGreatDoorAtTyRg
set_option linter.unusedSimpArgs false
set_option linter.unusedVariables false
set_option maxRecDepth 100000
set_option maxHeartbeats 99000000
/- The contract of the validation of one statement of package tree: a call that stands alone; all kinds. -/
namespace Go.Proofs.YthcmenajdcbnnaaGreatDoor
open Lib (hid)
open Go.RowKit
theorem Oy{p:Prop}(h:p:=by
 go_enter Tryz.func31,Tryz.ntmps31
 go_wp2_with (first
  | (go_at_call 62;(with_reducible refine(vW B p _ L.out _ _ _ ar.out I9 (m.out.below (G.out.mono h) Zr) (k.out.below (G.out.mono h) Zr)).mono ?_);rintro e w3 ⟨rfl,i⟩
     have c:=(i.block w.heap.size I9).trans aD.out;have a:=(i.block (w.heap.size+1) Ia).trans au.out;obtain⟨⟨H,I⟩,J⟩:=zO c;obtain⟨⟨D,E⟩,F⟩:=zO a;have S:w.heap.size+1<w3.heap.size:=zB a;have ah:w.heap.size<w3.heap.size:=zB c;have y:Below w.heap.size w w3:=G.out.trans (i.mono I9);have W:=hid c;have N:=hid a;have T:=hid (m.out.below (y.mono h) Zr);have U:=hid (k.out.below (y.mono h) Zr);have ad:B<=w3.heap.size:=I7
     have M:=hid y
     clear i c a y)
  | (go_at_call 64;(with_reducible refine(yt B p _ _ _ ad T.out U.out aG aH).mono ?_);rintro e w4 ⟨a4,rfl,u,q⟩
     rw[aB.out]at u;obtain⟨aJ,aQ,rfl,_⟩:=u.form;have V:=hid u;have c:=(q.block w.heap.size ah).trans W.out;have a:=(q.block (w.heap.size+1) S).trans N.out;obtain⟨⟨H,I⟩,J⟩:=zO c;obtain⟨⟨D,E⟩,F⟩:=zO a;have ag:w.heap.size+1<w4.heap.size:=zB a;have ai:w.heap.size<w4.heap.size:=zB c;have z:Below w.heap.size w w4:=M.out.trans (q.mono I7);have X:=hid c;have aa:=hid a;have aK:=hid (m.out.below (z.mono h) Zr);have aM:=hid (k.out.below (z.mono h) Zr);have aS:B<=w4.heap.size:=I7
     have Y:=hid z
     clear q c a z u)
  | (go_at_call 63;(with_reducible refine(jm w4.heap.size _ _ _ _ Zr V.out aE.out aA.out).mono ?_);rintro e w5 ⟨rfl,t⟩
     have c:=(t.block w.heap.size ai).trans X.out;have a:=(t.block (w.heap.size+1) ag).trans aa.out;obtain⟨⟨H,I⟩,J⟩:=zO c;obtain⟨⟨D,E⟩,F⟩:=zO a;have ax:w.heap.size+1<w5.heap.size:=zB a;have ay:w.heap.size<w5.heap.size:=zB c;have A:Below w.heap.size w w5:=Y.out.trans (t.mono I7);have ap:=hid c;have ab:=hid a;have an:=hid (m.out.below (A.mono h) Zr);have ao:=hid (k.out.below (A.mono h) Zr);have aw:B<=w5.heap.size:=I7
     have Z:=hid A
     clear t c a A))
 obtain⟨K,f1⟩:=xF ab.out (.int .i64 0) (.int .i64 0);refine bodyPost_ret (v:=.tuple #[.int .i64 50,.agg #[.int .i64 0,.int .i64 0]]) (by simp[results,Tryz.results31,go_sem,K,f1]) rfl ?_;have C:=az.out;rw[aq.out,Bool.true_or,if_pos rfl]at C;subst C;exact⟨rfl,ja Z.out I7 _ _⟩):p:=h
section
variable (ty:Int) (name:ByteArray) (A1 A2 A3:Option Addr) (m1 m2 m3 c1 c2 c3:Nat) (w:World)
theorem rightStmt_do(B:Nat)(args:List Ex)(d:xL B w (.slice A1 m1 c1) args)(b:args.length=m1):
 Calls Tryz.prog 132 #[.agg #[.int .i64 10,.int .i64 ty,.string name,.slice A1 m1 c1,.slice A2 m2 c2,.slice A3 m3 c3]] w fun e w'=>e=.returned (.bool (zr 10 ty name m1 m2 m3 (uL args)))/\Below w.heap.size w w':=by
 rcases args with _|⟨⟨k,op,n,t,l⟩,r⟩
 .subst b
  go_enter Tryz.func132,Tryz.ntmps132;go_wp2_with (fail)
  all_goals go_ret
  all_goals refine⟨zC ?_,(Zb.alloc Zr _).alloc Ia _⟩
  all_goals go_light
  all_goals simp_all [zr]
 .obtain⟨g,o,v,rfl,m,c,_⟩:=d.cells (i:=0) rfl
  have j:w.cell? ⟨g,o,none⟩=some (.int .i64 k):=Il
  have q:=block_lt_of_cell j;have p:0<m1:=by rw[<-b];simp
  clear c b d;go_enter Tryz.func132,Tryz.ntmps132;go_wp2_with (fail)
  all_goals go_ret
  all_goals refine⟨zC ?_,(Zb.alloc Zr _).alloc Ia _⟩
  all_goals go_light
  all_goals simp_all [zr,eB,tl_nil',uL,Ex.kind]
  all_goals first
   | (intros;omega)
   | (have h:m1=1:=by omega
      rw[Bool.eq_iff_iff];simp[h]
      exact⟨fun a=>decide_eq_true a,fun a=>of_decide_eq_true a⟩)
theorem rightStmt_any(k:Int)(B:Nat)(args:List Ex)(g:xL B w (.slice A1 m1 c1) args)(h:args.length=m1):
 Calls Tryz.prog 132 #[.agg #[.int .i64 k,.int .i64 ty,.string name,.slice A1 m1 c1,.slice A2 m2 c2,.slice A3 m3 c3]] w fun e w'=>e=.returned (.bool (zr k ty name m1 m2 m3 (uL args)))/\Below w.heap.size w w':=by
 by_cases a:k=4\/k=5\/k=6\/k=7\/k=8\/k=9
 .exact rightStmt_plain ty name A1 A2 A3 m1 m2 m3 c1 c2 c3 w k _ a
 by_cases b:k=2\/k=3
 .exact rightStmt_named ty name A1 A2 A3 m1 m2 m3 c1 c2 c3 w k _ b _ rfl
 by_cases c:k=1
 .subst c
  exact rightStmt_let ty name A1 A2 A3 m1 m2 m3 c1 c2 c3 w _ _ _ rfl rfl
 by_cases d:k=10
 .subst d
  exact rightStmt_do ty name A1 A2 A3 m1 m2 m3 c1 c2 c3 w B args g h
 .exact rightStmt_other ty name A1 A2 A3 m1 m2 m3 c1 c2 c3 w k _ I7
end
theorem rightStmt_is(ty:Int)(name:ByteArray)(A1 A2 A3:Option Addr)(m1 m2 m3 c1 c2 c3:Nat)(k:Int)(B:Nat)(args:List Ex)(b:Bool)(d:args.length=m1)(c:zr k ty name m1 m2 m3 (uL args)=b)(w:World)(a:xL B w (.slice A1 m1 c1) args):
 Calls Tryz.prog 132 #[.agg #[.int .i64 k,.int .i64 ty,.string name,.slice A1 m1 c1,.slice A2 m2 c2,.slice A3 m3 c3]] w fun e w'=>e=.returned (.bool b)/\Below w.heap.size w w':=
 c ▸ rightStmt_any ty name A1 A2 A3 m1 m2 m3 c1 c2 c3 w k B args a d
def StsC(k:Nat):Prop:=∀(B:Nat) (d:Int) (l:List St) (b:Bool) (v:Value) (w:World),0<=d->d+k=101->stsOK l k=b->TreeTab B w->B<=w.heap.size->SlS B w v l->
 Calls Tryz.prog 108 #[v,.int .i64 d] w fun e w'=>e=.returned (.bool b)/\Below w.heap.size w w'
theorem StsC.call{k:Nat}(a:StsC k)(B:Nat)(d:Int)(l:List St)(b:Bool)(v:Value)(w:World)(c:0<=d)(i:d+k=101)(h:stsOK l k=b)(m:TreeTab B w)(g:B<=w.heap.size)(j:SlS B w v l):
 Calls Tryz.prog 108 #[v,.int .i64 d] w fun e w'=>e=.returned (.bool b)/\Below w.heap.size w w':=a B d l b v w c i h m g j
theorem uT(k:Nat)(ah:∀c,c+1=k->StsC c):StsC k:=by
 intro B d l b v w aQ ad Y ag a L;have aR:d<=101:=I7
 have z:=hid ad;clear ad;obtain⟨A,cap,rfl,aX⟩:=L.form;have E:=hid ag;have an:=hid L;have r:=hid Y;have S:=hid ah;clear ag L Y ah;go_enter Tryz.func108,Tryz.ntmps108;go_wp2_with (fail)
 go_loopw [9] (fun iv wr=>∃j:Nat,j<=l.length/\iv=.int .i64 j/\stsOK (l.take j) k=true/\Below w.heap.size w wr) (fun iv _=>l.length-(intOf iv).toNat)
 case atStart=>exact⟨0,Nat.zero_le _,rfl,zAh _,Below.refl _ _⟩
 case round=>
  obtain⟨j,aW,rfl,X,h⟩:=hrel;have P:=hid X;clear X;have u:=h.size;by_cases ax:j<l.length
  .obtain⟨⟨ai,ty,name,args,thn,els⟩,K⟩:∃e,l[j]? =some e:=⟨_,List.getElem?_eq_getElem ax⟩
   have t:=hid K;obtain⟨g,o,v,a4,a5,rfl,aU,aH,aI,aJ,aK,aL,aM,M,N,O⟩:=(an.out.below (h.mono a) Zr).cells K;obtain⟨aB,aE,rfl,aY⟩:=M.form;obtain⟨aC,aF,rfl,aZ⟩:=N.form;obtain⟨aD,aG,rfl,a0⟩:=O.form;have D:=hid M;have ao:=hid N;have ap:=hid O;have aV:g<wr.heap.size:=I7
   have aN:=h.mono a;have F:B<=wr.heap.size:=Nat.le_trans a u;clear K M N O;rcases k with _|c
   .have av:decide ((100 :Int)<d)=true:=by have:=z.out;simp;omega
    have aq:Hid (stsOK l 0=false):=zX t.out (by rw[kH];simp);go_wp2_with (fail);go_ret;exact⟨zC (by rw[<-r.out,aq.out]),h.alloc u _⟩
   .have av:decide ((100 :Int)<d)=false:=by have:=z.out;simp;omega
    have ae:(d+1)+(c:Int)=101:=by have:=z.out;omega
    have af:0<=d+1:=I7
    have R:=hid ae;clear ae;obtain⟨T,G⟩:∃b,zr ai ty name args.length thn.length els.length (uL args)=b:=⟨_,rfl⟩
    obtain⟨U,H⟩:∃b,qC args 100=b:=⟨_,rfl⟩
    obtain⟨V,I⟩:∃b,stsOK thn c=b:=⟨_,rfl⟩
    obtain⟨W,J⟩:∃b,stsOK els c=b:=⟨_,rfl⟩
    have C:Hid (stOK (.mk ai ty name args thn els) (c+1)=(T && U && V && W)):=by
     unfold Hid;rw[kH,G,H,Nat.add_sub_cancel,I,J];simp
    have Q:=hid G;have ak:=hid H;have al:=hid I;have am:=hid J;clear G H I J;cases T
    .go_wp2_with (go_at_call 132;(with_reducible refine(rightStmt_is _ _ _ _ _ _ _ _ _ _ _ _ B args _ rfl Q.out _ (D.out.below (Zb.alloc F _) Zr)).mono ?_);rintro e aj ⟨rfl,i⟩;obtain⟨au,aw⟩:=qK i)
     go_ret;exact⟨zC Uy,(h.alloc u _).trans (i.mono I9)⟩
    .cases U
     case' true=>cases V
     case' true.true=>cases W
     all_goals
      go_wp2_with (first
       | (go_at_call 132;(with_reducible refine(rightStmt_is _ _ _ _ _ _ _ _ _ _ _ _ B args _ rfl Q.out _ (D.out.below (Zb.alloc F _) Zr)).mono ?_);rintro e aj ⟨rfl,i⟩;obtain⟨au,aw⟩:=qK i;have a1:wr.heap.size<aj.heap.size:=(by have:=i.size;simp at this;omega);have p:=(h.alloc u _).trans (i.mono I9);have Z:=((Below.refl B _).alloc F _).trans (i.mono I9))
       | (go_at_call 133;(with_reducible refine(rightExprs_any B args _ ak.out _ _ (E.out.below (p.mono a)) (Nat.le_trans a p.size) (D.out.below Z Zr)).mono ?_);rintro e az ⟨rfl,x⟩;obtain⟨aO,aS⟩:=qK x;have a2:wr.heap.size<az.heap.size:=(by have:=x.size;omega);have m:=p.trans (x.mono p.size);have aa:=Z.trans (x.mono (Nat.le_trans a p.size)))
       | (go_at_call 108;(with_reducible refine((S.out c rfl).call B _ thn _ _ _ af R.out al.out (E.out.below (m.mono a)) (Nat.le_trans a m.size) (ao.out.below aa Zr)).mono ?_);rintro e aA ⟨rfl,y⟩;obtain⟨aP,aT⟩:=qK y;have a3:wr.heap.size<aA.heap.size:=(by have:=y.size;omega);have q:=m.trans (y.mono m.size);have ar:=aa.trans (y.mono (Nat.le_trans a m.size)))
       | (go_at_call 108;(with_reducible refine((S.out c rfl).call B _ els _ _ _ af R.out am.out (E.out.below (q.mono a)) (Nat.le_trans a q.size) (ap.out.below ar Zr)).mono ?_);rintro e a6 ⟨rfl,ay⟩;have ab:=q.trans (ay.mono q.size)))
     all_goals first
      | (go_ret;exact⟨zC Uy,by first|exact ab|exact q|exact m⟩)
      | (go_roundw
         case rel=>exact⟨j+1,I7,by go_num,by rw[jk t.out,P.out,C.out];rfl,ab⟩
         case measure=>simp[intOf];omega)
  .go_wp2_with (fail)
   go_ret;refine⟨zC ?_,h⟩;rw[<-r.out,<-P.out,List.take_of_length_le I7]
theorem ux:∀k,StsC k
 | 0=>uT 0 (fun _ b=>I7)
 | k+1=>uT (k+1) (fun a b=>by
    obtain rfl:a=k:=I7
    exact ux a)
theorem rightStmts_any(B:Nat)(l:List St)(b:Bool)(c:stsOK l 100=b)(v:Value)(w:World)(g:TreeTab B w)(a:B<=w.heap.size)(d:SlS B w v l):
 Calls Tryz.prog 108 #[v,.int .i64 1] w fun e w'=>e=.returned (.bool b)/\Below w.heap.size w w':=ux 100 B 1 l b v w I8 I8 c g a d
theorem rightArray_is(a:Ar)(c:Bool)(i:vC a=c)(w:World):Calls Tryz.prog 85 #[.agg #[.string a.name,.int .i64 a.size]] w fun e w'=>e=.returned (.bool c)/\Below w.heap.size w w':=by
 subst i;obtain⟨b,g⟩:∃b,vd a.name=b:=⟨_,rfl⟩
 have d:=hid g;clear g;cases b
 all_goals
  go_enter Tryz.func85,Tryz.ntmps85;go_wp2_with (go_at_call 106;(with_reducible refine(nm_is a.name _ d.out _).mono ?_);rintro e m ⟨rfl,h⟩;obtain⟨k,l⟩:=qK h)
  all_goals go_ret
  all_goals refine⟨zC ?_,(Zb.alloc Zr _).trans (h.mono Ia)⟩
  all_goals have j:=d.out
  all_goals go_light
  all_goals simp_all [vC]
 all_goals omega
theorem yT{α:Type}(f:α->Bool){l:List α}{i:Nat}{x:α}(a:l[i]? =some x):(l.take (i+1)).all f=((l.take i).all f && f x):=by
 rw[List.take_add_one,a];simp
theorem xJ{α:Type}(f:α->Bool){l:List α}{i:Nat}{x:α}(b:l[i]? =some x)(a:f x=false):l.all f=false:=by
 rw[Bool.eq_false_iff];intro c;rw[List.all_eq_true.1 c x (List.mem_of_getElem? b)]at a;cases a
section
variable (B:Nat) (f:Fu) (A A2:Option Addr) (cap cap2:Nat) (w:World)
theorem rightFunc_head(c:(vd f.name && ud f.type && decide (f.params.length<=8))=false)(m m2:Nat)(k:f.params.length=m):
 Calls Tryz.prog 86 #[.agg #[.string f.name,.int .i64 f.type,.slice A m cap,.slice A2 m2 cap2]] w fun e w'=>e=.returned (.bool false)/\Below w.heap.size w w':=by
 obtain⟨o,a⟩:∃b,vd f.name=b:=⟨_,rfl⟩
 obtain⟨p,g⟩:∃b,ud f.type=b:=⟨_,rfl⟩
 rw[a,g,k]at c;have d:=hid a;have h:=hid g;clear a g k;cases o
 .clear c
  go_enter Tryz.func86,Tryz.ntmps86;go_wp2_with (go_at_call 106;(with_reducible refine(nm_is f.name _ d.out _).mono ?_);rintro e l ⟨rfl,a⟩;obtain⟨i,j⟩:=qK a);go_ret;exact⟨rfl,(Zb.alloc Zr _).trans (a.mono Ia)⟩
 .cases p
  .clear c
   go_enter Tryz.func86,Tryz.ntmps86
   go_wp2_with (first
    | (go_at_call 106;(with_reducible refine(nm_is f.name _ d.out _).mono ?_);rintro e l ⟨rfl,a⟩;obtain⟨i,j⟩:=qK a)
    | (go_at_call 107;(with_reducible refine(kO f.type _ h.out _).mono ?_);rintro e q ⟨rfl,rfl⟩))
   go_ret;exact⟨rfl,(Zb.alloc Zr _).trans (a.mono Ia)⟩
  .have r:decide ((8 :Int)<(m:Int))=true:=by simp at c ⊢;omega
   clear c;go_enter Tryz.func86,Tryz.ntmps86
   go_wp2_with (first
    | (go_at_call 106;(with_reducible refine(nm_is f.name _ d.out _).mono ?_);rintro e l ⟨rfl,a⟩;obtain⟨i,j⟩:=qK a)
    | (go_at_call 107;(with_reducible refine(kO f.type _ h.out _).mono ?_);rintro e q ⟨rfl,rfl⟩))
   all_goals first
    | (exfalso;omega)
    | (go_ret;exact⟨rfl,(Zb.alloc Zr _).trans (a.mono Ia)⟩)
theorem rightFunc_body(O:TreeTab B w)(k:B<=w.heap.size)(M:SlP B w (.slice A f.params.length cap) f.params)(N:SlS B w (.slice A2 f.body.length cap2) f.body)
 (E:(vd f.name && ud f.type && decide (f.params.length<=8))=true) (c:Bool) (J:(f.params.all vg && stsOK f.body 100)=c):
 Calls Tryz.prog 86 #[.agg #[.string f.name,.int .i64 f.type,.slice A f.params.length cap,.slice A2 f.body.length cap2]] w fun e w'=>e=.returned (.bool c)/\Below w.heap.size w w':=by
 simp only[Bool.and_eq_true,decide_eq_true_eq]at E;obtain⟨⟨F,G⟩,ai⟩:=E;have Q:=hid F;have R:=hid G;have W:=hid O;have U:=hid M;have V:=hid N;have v:=hid J;clear F G O M N J;go_enter Tryz.func86,Tryz.ntmps86
 go_wp2_with (first
  | (go_at_call 106;(with_reducible refine(nm_is f.name _ Q.out _).mono ?_);rintro e w1 ⟨rfl,l⟩;obtain⟨K,aa⟩:=qK l)
  | (go_at_call 107;(with_reducible refine(kO f.type _ R.out _).mono ?_);rintro e P ⟨rfl,rfl⟩))
 have ad:w.heap.size<w1.heap.size:=by have:=l.size;simp at this;omega
 have af:Below w.heap.size w w1:=(Zb.alloc Zr _).trans (l.mono Ia)
 have L:∀i,w1.cell? ⟨w.heap.size,i,none⟩=(#[.string f.name,.int .i64 f.type,.slice A f.params.length cap,.slice A2 f.body.length cap2]:Array Value)[i]?:=fun i=>by
  rw[K _ _ Ia];exact Lib.cell_of_heap (heap_alloc_new w _) i
 have S:=hid L;have ag:w1.cell? ⟨w.heap.size,3,none⟩=some (.slice A2 f.body.length cap2):=by rw[S.out];rfl
 clear K aa L
 go_loopw [24] (fun iv wr=>∃j:Nat,j<=f.params.length/\iv=.int .i64 j/\(f.params.take j).all vg=true/\Below w1.heap.size w1 wr) (fun iv _=>f.params.length-(intOf iv).toNat)
 case atStart=>exact⟨0,Nat.zero_le _,rfl,rfl,Below.refl _ _⟩
 case round=>
  obtain⟨j,an,rfl,H,h⟩:=hrel;have u:=hid H;clear H;have ae:=h.size;have a:Below w.heap.size w wr:=af.trans (h.mono I7);have ap:wr.cell? ⟨w.heap.size,3,none⟩=some (.slice A2 f.body.length cap2):=(h.cell (p:=⟨w.heap.size,3,none⟩) ad).trans ag;have ao:w.heap.size<wr.heap.size:=I7
  have Y:B<=wr.heap.size:=I7
  by_cases ab:j<f.params.length
  .obtain⟨x,r⟩:∃e,f.params[j]? =some e:=⟨_,List.getElem?_eq_getElem ab⟩
   obtain⟨g,o,rfl,al,aq,ar⟩:=(U.out.below (a.mono k) Zr).cells r;have z:=hid r;have am:g<wr.heap.size:=I7
   obtain⟨C,m⟩:∃b,vd x.name=b:=⟨_,rfl⟩
   obtain⟨D,q⟩:∃b,ud x.type=b:=⟨_,rfl⟩
   have y:Hid (vg x=(C && D)):=by unfold Hid vg;rw[m,q]
   have T:=hid m;have X:=hid q;clear r m q;cases C
   case' true=>cases D
   all_goals
    go_wp2_with (first
     | (go_at_call 106;(with_reducible refine(nm_is x.name _ T.out _).mono ?_);rintro e P ⟨rfl,d⟩;obtain⟨aj,ak⟩:=qK d)
     | (go_at_call 107;(with_reducible refine(kO x.type _ X.out _).mono ?_);rintro e au ⟨rfl,rfl⟩))
   all_goals first
    | (go_ret;exact⟨zC (by rw[<-v.out,xJ vg z.out y.out];rfl),(a.alloc I7 _).trans (d.mono I9)⟩)
    | (go_roundw
       case rel=>exact⟨j+1,I7,by go_num,by rw[yT vg z.out,u.out,y.out];rfl,(h.alloc ae _).trans (d.mono I9)⟩
       case measure=>simp[intOf];omega)
  .have Z:Hid (f.params.all vg=true):=by unfold Hid;rw[<-u.out,List.take_of_length_le I7]
   obtain⟨ah,I⟩:∃b,stsOK f.body 100=b:=⟨_,rfl⟩
   have t:=hid I;clear I;go_wp2_with (go_at_call 108;(with_reducible refine(rightStmts_any B f.body _ t.out _ _ (W.out.below (a.mono k)) Y (V.out.below (a.mono k) Zr)).mono ?_);rintro e P ⟨rfl,d⟩);go_ret;exact⟨zC (by rw[<-v.out,Z.out,t.out];simp),a.trans (d.mono I7)⟩
theorem rightFunc_is(i:TreeTab B w)(b:B<=w.heap.size)(d:SlP B w (.slice A f.params.length cap) f.params)(g:SlS B w (.slice A2 f.body.length cap2) f.body)(c:Bool)(a:yF f=c):
 Calls Tryz.prog 86 #[.agg #[.string f.name,.int .i64 f.type,.slice A f.params.length cap,.slice A2 f.body.length cap2]] w fun e w'=>e=.returned (.bool c)/\Below w.heap.size w w':=by
 cases h:(vd f.name && ud f.type && decide (f.params.length<=8))with
 | false=>
   have:c=false:=by rw[<-a];unfold yF;rw[h];simp
   subst this;exact rightFunc_head f A A2 cap cap2 w h _ _ rfl
 | true=>
   refine rightFunc_body B f A A2 cap cap2 w i b d g h c ?_;rw[<-a];unfold yF;rw[h];simp
end
theorem vW(B:Nat)(p:Pr)(c:Bool)(K:prOK p=c)(v v':Value)(w:World)(L:TreeTab B w)(t:B<=w.heap.size)(u:SlA B w v p.arrays)(C:SlF B w v' p.funcs):
 Calls Tryz.prog 62 #[.agg #[v,v']] w fun e w'=>e=.returned (.bool c)/\Below w.heap.size w w':=by
 obtain⟨A,cap,rfl,al⟩:=u.form;obtain⟨A2,cap2,rfl,am⟩:=C.form;have T:=hid L;have N:=hid u;have P:=hid C;have q:=hid K;clear L u C K;go_enter Tryz.func62,Tryz.ntmps62;go_wp2_with (fail)
 go_loopw [10] (fun iv wr=>∃j:Nat,j<=p.arrays.length/\iv=.int .i64 j/\(p.arrays.take j).all vC=true/\Below (w.heap.size+1) (w.alloc (.cells #[.slice A p.arrays.length cap,.slice A2 p.funcs.length cap2] 27)) wr) (fun iv _=>p.arrays.length-(intOf iv).toNat)
 case atStart=>exact⟨0,Nat.zero_le _,rfl,rfl,Below.refl _ _⟩
 case round=>
  obtain⟨j,aj,rfl,I,k⟩:=hrel;have F:=hid I;clear I;have Y:w.heap.size+1<=wr.heap.size:=by have:=k.size;simpa using this
  have M:Below w.heap.size w wr:=(Zb.alloc Zr _).trans (k.mono I7);have ai:B<=wr.heap.size:=I7
  by_cases W:j<p.arrays.length
  .obtain⟨x,d⟩:∃e,p.arrays[j]? =some e:=⟨_,List.getElem?_eq_getElem W⟩
   obtain⟨g,o,rfl,U,aa,ab⟩:=(N.out.below (M.mono t) Zr).cells d;have h:=hid d;have V:g<wr.heap.size:=I7
   obtain⟨r,i⟩:∃b,vC x=b:=⟨_,rfl⟩
   have a:=hid i;clear d i;cases r
   all_goals
    go_wp2_with (go_at_call 85;(with_reducible refine(rightArray_is x _ a.out _).mono ?_);rintro e ad ⟨rfl,l⟩)
   .go_ret
    exact⟨zC (by rw[<-q.out];unfold prOK;rw[xJ vC h.out a.out];rfl),(M.alloc I7 _).trans (l.mono I9)⟩
   .go_roundw
    case rel=>exact⟨j+1,I7,by go_num,by rw[yT vC h.out,F.out,a.out];rfl,(k.alloc Y _).trans (l.mono I9)⟩
    case measure=>simp[intOf];omega
  .have O:Hid (p.arrays.all vC=true):=by unfold Hid;rw[<-F.out,List.take_of_length_le I7]
   have ao:wr.cell? ⟨w.heap.size,1,none⟩=some (.slice A2 p.funcs.length cap2):=(k.cell (p:=⟨w.heap.size,1,none⟩) Ia).trans Ia;have an:w.heap.size<wr.heap.size:=I7
   go_wp2_with (fail)
   go_loopw [21] (fun iv ae=>∃j:Nat,j<=p.funcs.length/\iv=.int .i64 j/\(p.funcs.take j).all yF=true/\Below (w.heap.size+1) (w.alloc (.cells #[.slice A p.arrays.length cap,.slice A2 p.funcs.length cap2] 27)) ae) (fun iv _=>p.funcs.length-(intOf iv).toNat)
   case atStart=>exact⟨0,Nat.zero_le _,rfl,rfl,k⟩
   case round=>
    obtain⟨E,ak,rfl,J,z⟩:=hrel;have G:=hid J;clear J;have Z:w.heap.size+1<=wr.heap.size:=by have:=z.size;simpa using this
    have m:Below w.heap.size w wr:=(Zb.alloc Zr _).trans (z.mono I7);have H:B<=wr.heap.size:=I7
    by_cases X:E<p.funcs.length
    .obtain⟨x,d⟩:∃e,p.funcs[E]? =some e:=⟨_,List.getElem?_eq_getElem X⟩
     obtain⟨g,o,ar,au,rfl,U,aa,ab,ap,aq,D,y⟩:=(P.out.below (m.mono t) Zr).cells d;obtain⟨A3,ag,rfl,_⟩:=D.form;obtain⟨af,ah,rfl,_⟩:=y.form;have h:=hid d;have R:=hid D;have S:=hid y;have V:g<wr.heap.size:=I7
     obtain⟨r,i⟩:∃b,yF x=b:=⟨_,rfl⟩
     have a:=hid i;clear d i D y;cases r
     all_goals
      go_wp2_with (go_at_call 86;(with_reducible refine(rightFunc_is B x _ _ _ _ _ (T.out.below ((m.alloc I7 _).mono t)) I9 (R.out.below (Zb.alloc H _) Zr) (S.out.below (Zb.alloc H _) Zr) _ a.out).mono ?_);rintro e ad ⟨rfl,l⟩)
     .go_ret
      exact⟨zC (by rw[<-q.out];unfold prOK;rw[xJ yF h.out a.out];simp),(m.alloc I7 _).trans (l.mono I9)⟩
     .go_roundw
      case rel=>exact⟨E+1,I7,by go_num,by rw[yT yF h.out,G.out,a.out];rfl,(z.alloc Z _).trans (l.mono I9)⟩
      case measure=>simp[intOf];omega
    .have Q:Hid (p.funcs.all yF=true):=by unfold Hid;rw[<-G.out,List.take_of_length_le I7]
     go_wp2_with (fail);go_ret;exact⟨zC (by rw[<-q.out];unfold prOK;rw[O.out,Q.out];rfl),m⟩
abbrev prsO(a b:Int):Obj:=.cells #[.int .i64 a,.int .i64 b] 62
def ChkPost(w:World)(R:Int × Nat × Nat)(e:Ending)(w':World):Prop:=
 e=.returned (.tuple #[.int .i64 R.1,.agg #[.int .i64 (R.2.1:Int),.int .i64 (W64 R.2.2)]])/\Below w.heap.size w w'
theorem chkFs_cons{p:Pr}{f:Fu}{r:List Fu}{i:Nat}:chkFs p (f::r) i=if(uV p f).1≠0 then((uV p f).1,i,(uV p f).2)else chkFs p r (i+1):=by rw[chkFs]
theorem check_any(B:Nat)(p:Pr)(R:Int × Nat × Nat)(bs bt:Value)(w:World)(br:TreeTab B w)(h:B<=w.heap.size)(aT:SlA B w bs p.arrays)(aY:SlF B w bt p.funcs)(bq:Sized p)(aG:p.arrays.length<=1000000)(aH:p.funcs.length<=1000000)(bj:vD p=R):
 Calls Tryz.prog 31 #[.agg #[bs,bt]] w (ChkPost w R):=by
 obtain⟨am,av,rfl,_⟩:=aT.form;obtain⟨A1,c1,rfl,_⟩:=aY.form;have a1:Below w.heap.size w ((w.alloc (jT am p.arrays.length av A1 p.funcs.length c1)).alloc (prsO 0 0)):=(Zb.alloc Zr _).alloc Ia _;have G:=hid a1;have aD:=hid (show((w.alloc (jT am p.arrays.length av A1 p.funcs.length c1)).alloc (prsO 0 0)).heap[w.heap.size]? =some (jT am p.arrays.length av A1 p.funcs.length c1)from(Below.heap_alloc _ _ _ Ia).trans (heap_alloc_new w _));have au:=hid (show((w.alloc (jT am p.arrays.length av A1 p.funcs.length c1)).alloc (prsO 0 0)).heap[w.heap.size+1]? =some (prsO 0 0)from by simpa using heap_alloc_new (w.alloc (jT am p.arrays.length av A1 p.funcs.length c1)) (prsO 0 0));have ar:=hid (br.below (a1.mono h));have m:=hid aT;have k:=hid aY;have aq:=hid bj;have aC:=hid bq;obtain⟨ok,bn⟩:∃b,prOK p=b:=⟨_,rfl⟩
 have L:=hid bn;clear aT aY bj br bq a1 bn;cases ok
 case false=>
  go_enter Tryz.func31,Tryz.ntmps31
  go_wp2_with (go_at_call 62;(with_reducible refine(vW B p _ L.out _ _ _ ar.out I9 (m.out.below (G.out.mono h) Zr) (k.out.below (G.out.mono h) Zr)).mono ?_);rintro e w3 ⟨rfl,i⟩
               have a:=(i.block (w.heap.size+1) Ia).trans au.out;obtain⟨⟨D,E⟩,F⟩:=zO a;have S:w.heap.size+1<w3.heap.size:=zB a;have N:=hid a;have M:=hid (show Below w.heap.size w w3 from G.out.trans (i.mono I9))
               clear i a)
  obtain⟨K,f1⟩:=xF N.out (.int .i64 0) (.int .i64 0);refine bodyPost_ret (v:=.tuple #[.int .i64 1,.agg #[.int .i64 0,.int .i64 0]]) (by simp[results,Tryz.results31,go_sem,K,f1]) rfl ?_;have C:=aq.out;unfold vD at C;rw[if_pos L.out]at C;subst C;exact⟨rfl,ja M.out I7 _ _⟩
 case true=>
  obtain⟨d,aW⟩:∃b,(dupA p p.arrays || dupF p.funcs)=b:=⟨_,rfl⟩
  obtain⟨st,a0⟩:∃b,uN p=b:=⟨_,rfl⟩
  obtain⟨yR,aI⟩:∃l,p.arrays.map (·.name)++p.funcs.map (·.name)=l:=⟨_,rfl⟩
  have aB:=hid aI;have aA:=hid (show nod yR= !d by rw[<-aI,nod_globals,aW]);have bf:=hid a0;have az:=hid (show vD p=if(d || !st)=true then(50,0,0)else chkFs p p.funcs 0 by unfold vD;rw[if_neg (by rw[L.out];decide),aW,a0])
  have aE:=hid (show ∀s∈yR,s.size<=maxLen from fun s aj=>by
   rw[<-aI]at aj;rcases List.mem_append.1 aj with aj|aj
   .obtain⟨x,a2,rfl⟩:=List.mem_map.1 aj
    exact aC.out.1 x a2
   .obtain⟨x,a2,rfl⟩:=List.mem_map.1 aj
    exact(aC.out.2 x a2).1)
  clear aW a0 aI;have bz:d=true\/st=false\/(d=false/\st=true):=by cases d <;> cases st <;> simp
  rcases bz with rfl|rfl|⟨rfl,rfl⟩
  case inl=>
   exact Oy
  case inr.inl=>
   cases d
   case true=>
    exact Oy
   case false=>
    go_enter Tryz.func31,Tryz.ntmps31
    go_wp2_with (first
     | (go_at_call 62;(with_reducible refine(vW B p _ L.out _ _ _ ar.out I9 (m.out.below (G.out.mono h) Zr) (k.out.below (G.out.mono h) Zr)).mono ?_);rintro e w3 ⟨rfl,i⟩
        have c:=(i.block w.heap.size I9).trans aD.out;have a:=(i.block (w.heap.size+1) Ia).trans au.out;obtain⟨⟨H,I⟩,J⟩:=zO c;obtain⟨⟨D,E⟩,F⟩:=zO a;have S:w.heap.size+1<w3.heap.size:=zB a;have ah:w.heap.size<w3.heap.size:=zB c;have y:Below w.heap.size w w3:=G.out.trans (i.mono I9);have W:=hid c;have N:=hid a;have T:=hid (m.out.below (y.mono h) Zr);have U:=hid (k.out.below (y.mono h) Zr);have ad:B<=w3.heap.size:=I7
        have M:=hid y
        clear i c a y)
     | (go_at_call 64;(with_reducible refine(yt B p _ _ _ ad T.out U.out aG aH).mono ?_);rintro e w4 ⟨a4,rfl,u,q⟩
        rw[aB.out]at u;obtain⟨aJ,aQ,rfl,_⟩:=u.form;have V:=hid u;have c:=(q.block w.heap.size ah).trans W.out;have a:=(q.block (w.heap.size+1) S).trans N.out;obtain⟨⟨H,I⟩,J⟩:=zO c;obtain⟨⟨D,E⟩,F⟩:=zO a;have ag:w.heap.size+1<w4.heap.size:=zB a;have ai:w.heap.size<w4.heap.size:=zB c;have z:Below w.heap.size w w4:=M.out.trans (q.mono I7);have X:=hid c;have aa:=hid a;have aK:=hid (m.out.below (z.mono h) Zr);have aM:=hid (k.out.below (z.mono h) Zr);have aS:B<=w4.heap.size:=I7
        have Y:=hid z
        clear q c a z u)
     | (go_at_call 63;(with_reducible refine(jm w4.heap.size _ _ _ _ Zr V.out aE.out aA.out).mono ?_);rintro e w5 ⟨rfl,t⟩
        have c:=(t.block w.heap.size ai).trans X.out;have a:=(t.block (w.heap.size+1) ag).trans aa.out;obtain⟨⟨H,I⟩,J⟩:=zO c;obtain⟨⟨D,E⟩,F⟩:=zO a;have ax:w.heap.size+1<w5.heap.size:=zB a;have ay:w.heap.size<w5.heap.size:=zB c;have A:Below w.heap.size w w5:=Y.out.trans (t.mono I7);have ap:=hid c;have ab:=hid a;have an:=hid (m.out.below (A.mono h) Zr);have ao:=hid (k.out.below (A.mono h) Zr);have aw:B<=w5.heap.size:=I7
        have Z:=hid A
        clear t c a A)
     | (go_at_call 65;(with_reducible refine(startable_any B p _ _ _ _ aw an.out ao.out bf.out).mono ?_);rintro e w6 ⟨rfl,O⟩
        have c:=(O.block w.heap.size ay).trans ap.out;have a:=(O.block (w.heap.size+1) ax).trans ab.out;obtain⟨⟨H,I⟩,J⟩:=zO c;obtain⟨⟨D,E⟩,F⟩:=zO a;have bo:w.heap.size+1<w6.heap.size:=zB a;have bF:w.heap.size<w6.heap.size:=zB c;have P:Below w.heap.size w w6:=Z.out.trans (O.mono I7);have bd:=hid c;have aO:=hid a;have bu:=hid (m.out.below (P.mono h) Zr);have bw:=hid (k.out.below (P.mono h) Zr);have bx:B<=w6.heap.size:=I7
        have aN:=hid P
        clear O c a P))
    obtain⟨K,f1⟩:=xF aO.out (.int .i64 0) (.int .i64 0);refine bodyPost_ret (v:=.tuple #[.int .i64 50,.agg #[.int .i64 0,.int .i64 0]]) (by simp[results,Tryz.results31,go_sem,K,f1]) rfl ?_;have C:=az.out;rw[aq.out,Bool.false_or,Bool.not_false,if_pos rfl]at C;subst C;exact⟨rfl,ja aN.out I7 _ _⟩
  case inr.inr=>
   go_enter Tryz.func31,Tryz.ntmps31
   go_wp2_with (first
    | (go_at_call 62;(with_reducible refine(vW B p _ L.out _ _ _ ar.out I9 (m.out.below (G.out.mono h) Zr) (k.out.below (G.out.mono h) Zr)).mono ?_);rintro e w3 ⟨rfl,i⟩
       have c:=(i.block w.heap.size I9).trans aD.out;have a:=(i.block (w.heap.size+1) Ia).trans au.out;obtain⟨⟨H,I⟩,J⟩:=zO c;obtain⟨⟨D,E⟩,F⟩:=zO a;have S:w.heap.size+1<w3.heap.size:=zB a;have ah:w.heap.size<w3.heap.size:=zB c;have y:Below w.heap.size w w3:=G.out.trans (i.mono I9);have W:=hid c;have N:=hid a;have T:=hid (m.out.below (y.mono h) Zr);have U:=hid (k.out.below (y.mono h) Zr);have ad:B<=w3.heap.size:=I7
       have M:=hid y
       clear i c a y)
    | (go_at_call 64;(with_reducible refine(yt B p _ _ _ ad T.out U.out aG aH).mono ?_);rintro e w4 ⟨a4,rfl,u,q⟩
       rw[aB.out]at u;obtain⟨aJ,aQ,rfl,_⟩:=u.form;have V:=hid u;have c:=(q.block w.heap.size ah).trans W.out;have a:=(q.block (w.heap.size+1) S).trans N.out;obtain⟨⟨H,I⟩,J⟩:=zO c;obtain⟨⟨D,E⟩,F⟩:=zO a;have ag:w.heap.size+1<w4.heap.size:=zB a;have ai:w.heap.size<w4.heap.size:=zB c;have z:Below w.heap.size w w4:=M.out.trans (q.mono I7);have X:=hid c;have aa:=hid a;have aK:=hid (m.out.below (z.mono h) Zr);have aM:=hid (k.out.below (z.mono h) Zr);have aS:B<=w4.heap.size:=I7
       have Y:=hid z
       clear q c a z u)
    | (go_at_call 63;(with_reducible refine(jm w4.heap.size _ _ _ _ Zr V.out aE.out aA.out).mono ?_);rintro e w5 ⟨rfl,t⟩
       have c:=(t.block w.heap.size ai).trans X.out;have a:=(t.block (w.heap.size+1) ag).trans aa.out;obtain⟨⟨H,I⟩,J⟩:=zO c;obtain⟨⟨D,E⟩,F⟩:=zO a;have ax:w.heap.size+1<w5.heap.size:=zB a;have ay:w.heap.size<w5.heap.size:=zB c;have A:Below w.heap.size w w5:=Y.out.trans (t.mono I7);have ap:=hid c;have ab:=hid a;have an:=hid (m.out.below (A.mono h) Zr);have ao:=hid (k.out.below (A.mono h) Zr);have aw:B<=w5.heap.size:=I7
       have Z:=hid A
       clear t c a A)
    | (go_at_call 65;(with_reducible refine(startable_any B p _ _ _ _ aw an.out ao.out bf.out).mono ?_);rintro e w6 ⟨rfl,O⟩
       have c:=(O.block w.heap.size ay).trans ap.out;have a:=(O.block (w.heap.size+1) ax).trans ab.out;obtain⟨⟨H,I⟩,J⟩:=zO c;obtain⟨⟨D,E⟩,F⟩:=zO a;have bo:w.heap.size+1<w6.heap.size:=zB a;have bF:w.heap.size<w6.heap.size:=zB c;have P:Below w.heap.size w w6:=Z.out.trans (O.mono I7);have bd:=hid c;have aO:=hid a;have bu:=hid (m.out.below (P.mono h) Zr);have bw:=hid (k.out.below (P.mono h) Zr);have bx:B<=w6.heap.size:=I7
       have aN:=hid P
       clear O c a P))
   go_loopw [25] (fun iv wr=>∃j:Nat,j<=p.funcs.length/\iv=.int .i64 j/\chkFs p (p.funcs.drop j) j=R/\Below w6.heap.size w6 wr) (fun iv _=>p.funcs.length-(intOf iv).toNat)
   case atStart=>exact⟨0,Nat.zero_le _,rfl,by have:=az.out;rw[aq.out]at this;exact this.symm,Below.refl _ _⟩
   case round=>
    obtain⟨j,bI,rfl,bk,af⟩:=hrel;have bl:=hid bk;have bv:=hid af;have bD:=af.size;have al:Below w.heap.size w wr:=aN.out.trans (af.mono I7);have bh:=hid al;have a3:=(af.block (w.heap.size+1) bo).trans aO.out;obtain⟨⟨D,E⟩,F⟩:=zO a3;obtain⟨⟨H,I⟩,J⟩:=zO ((af.block w.heap.size I7).trans bd.out);have aP:=hid a3;have bp:w.heap.size+1<wr.heap.size:=I7
    have bJ:w.heap.size<wr.heap.size:=I7
    clear bk a3;by_cases bA:j<p.funcs.length
    .obtain⟨f,aF⟩:∃e,p.funcs[j]? =some e:=⟨_,List.getElem?_eq_getElem bA⟩
     obtain⟨g,o,bK,bL,rfl,bG,bM,bN,bO,bP,aZ,aU⟩:=(k.out.below (al.mono h) Zr).cells aF;obtain⟨A2,c2,rfl,_⟩:=aZ.form;obtain⟨A3,c3,rfl,_⟩:=aU.form;have bH:g<wr.heap.size:=I7
     have ak:Below wr.heap.size wr (wr.alloc (fuO f.name f.type (.slice A2 f.params.length c2) (.slice A3 f.body.length c3))):=Zb.alloc Zr _;have be:=hid (aZ.below (ak.mono I7) Zr);have a6:=hid (aU.below (ak.mono I7) Zr);have a5:=hid (m.out.below ((al.trans (ak.mono I7)).mono h) Zr);have a9:=hid (k.out.below ((al.trans (ak.mono I7)).mono h) Zr);have bg:=hid ak;have ba:=hid (List.mem_of_getElem? aF);obtain⟨⟨aR,n1⟩,aV⟩:∃r,uV p f=r:=⟨_,rfl⟩
     have a7:=hid aV;have aX:=bl.out;rw[drop_at aF,chkFs_cons,aV]at aX;have a8:=hid aX;clear aZ aU ak aF aV aX af al;by_cases bm:aR=0
     .subst bm
      go_wp2_with (go_at_call 66;(with_reducible refine(function_any B p f L.out aC.out ba.out _ _ _ _ _ I9 a5.out a9.out be.out a6.out _ a7.out).mono ?_);rintro e w8 ⟨rfl,ae⟩
                   have Q:=(ae.block (w.heap.size+1) I9).trans ((Below.heap_alloc wr _ _ bp).trans aP.out);obtain⟨⟨D,E⟩,F⟩:=zO Q;have bC:w.heap.size+1<w8.heap.size:=zB Q;have bi:=hid Q;have aL:=hid ae
                   clear ae Q)
      go_roundw
      case rel=>exact⟨j+1,I7,by go_num,by have:=a8.out;rw[if_neg (show ¬(0 :Int)≠0 by decide)]at this;exact this,bv.out.trans ((bg.out.trans (aL.out.mono Ia)).mono bD)⟩
      case measure=>simp[intOf];omega
     .go_wp2_with (go_at_call 66;(with_reducible refine(function_any B p f L.out aC.out ba.out _ _ _ _ _ I9 a5.out a9.out be.out a6.out _ a7.out).mono ?_);rintro e w8 ⟨rfl,ae⟩
                   have Q:=(ae.block (w.heap.size+1) I9).trans ((Below.heap_alloc wr _ _ bp).trans aP.out);obtain⟨⟨D,E⟩,F⟩:=zO Q;have bC:w.heap.size+1<w8.heap.size:=zB Q;have bi:=hid Q;have aL:=hid ae
                   clear ae Q)
      obtain⟨K,f1⟩:=xF bi.out (.int .i64 (j:Int)) (.int .i64 (W64 n1));refine bodyPost_ret (v:=.tuple #[.int .i64 aR,.agg #[.int .i64 (j:Int),.int .i64 (W64 n1)]]) (by simp[results,Tryz.results31,go_sem,K,f1]) rfl ?_;have C:=a8.out;rw[if_pos (show aR≠0 from bm)]at C;subst C;exact⟨rfl,ja (bh.out.trans ((bg.out.trans (aL.out.mono Ia)).mono I7)) I7 _ _⟩
    .clear af al
     go_wp2_with (fail);obtain⟨K,f1⟩:=xF aP.out (.int .i64 0) (.int .i64 0);refine bodyPost_ret (v:=.tuple #[.int .i64 0,.agg #[.int .i64 0,.int .i64 0]]) (by simp[results,Tryz.results31,go_sem,K,f1]) rfl ?_;have C:=bl.out;rw[List.drop_of_length_le I7,chkFs]at C;subst C;exact⟨rfl,ja bh.out I7 _ _⟩
end Go.Proofs.YthcmenajdcbnnaaGreatDoor
