import Derived.Test.YthcmenajdcbnnaaGreatDoorAnTyBl
set_option linter.unusedSimpArgs false
set_option linter.unusedVariables false
set_option maxRecDepth 100000
set_option maxHeartbeats 99000000
namespace Go.Proofs.YthcmenajdcbnnaaGreatDoor
open Go.RowKit Tryz
theorem Iu{p:Prop}(h:p:=by
 go_enter func31,ntmps31
 go_wp2_with (first
  | (go_at_call 62;(with_reducible refine(e7 B p _ M.o _ _ _ aw.o Uq (n.o.below (G.o.mono c) Zr) (m.o.below (G.o.mono c) Zr)).mono ?_);rintro e l ⟨rfl,i⟩
     have b:=(i.block w.heap.size Uq).trans aG.o;have a:=(i.block (w.heap.size+1) Ur).trans ax.o;obtain⟨⟨H,I⟩,J⟩:=zD b;obtain⟨⟨D,E⟩,F⟩:=zD a;have V:w.heap.size+1<l.heap.size:=zB a;have ak:w.heap.size<l.heap.size:=zB b;have u:Cx w l:=G.o.trans (i.mono Uq);have Z:=U b;have P:=U a;have W:=U (n.o.below (u.mono c) Zr);have X:=U (m.o.below (u.mono c) Zr);have ag:B<=l.heap.size:=O
     have N:=U u
     clear i b a u)
  | (go_at_call 64;(with_reducible refine(uT B p _ _ _ ag W.o X.o aJ aK).mono ?_);rintro e k ⟨a7,rfl,t,q⟩
     rw[aE.o]at t;obtain⟨aM,aT,rfl,_⟩:=t.form;have Y:=U t;have b:=(q.block w.heap.size ak).trans Z.o;have a:=(q.block (w.heap.size+1) V).trans P.o;obtain⟨⟨H,I⟩,J⟩:=zD b;obtain⟨⟨D,E⟩,F⟩:=zD a;have aj:w.heap.size+1<k.heap.size:=zB a;have al:w.heap.size<k.heap.size:=zB b;have y:Cx w k:=N.o.trans (q.mono O);have aa:=U b;have ae:=U a;have aN:=U (n.o.below (y.mono c) Zr);have aP:=U (m.o.below (y.mono c) Zr);have aV:B<=k.heap.size:=O
     have ab:=U y
     clear q b a y t)
  | (go_at_call 63;(with_reducible refine(kh k.heap.size _ _ _ _ Zr Y.o aH.o aD.o).mono ?_);rintro e A ⟨rfl,r⟩
     have b:=(r.block w.heap.size al).trans aa.o;have a:=(r.block (w.heap.size+1) aj).trans ae.o;obtain⟨⟨H,I⟩,J⟩:=zD b;obtain⟨⟨D,E⟩,F⟩:=zD a;have aA:w.heap.size+1<A.heap.size:=zB a;have aB:w.heap.size<A.heap.size:=zB b;have z:Cx w A:=ab.o.trans (r.mono O);have au:=U b;have af:=U a;have aq:=U (n.o.below (z.mono c) Zr);have ar:=U (m.o.below (z.mono c) Zr);have az:B<=A.heap.size:=O
     have ad:=U z
     clear r b a z))
 obtain⟨K,f1⟩:=jd af.o (.int .i64 0) (.int .i64 0);refine bodyPost_ret (v:=.tuple #[(50:Int),.agg #[(0:Int),(0:Int)]]) (by simp[results,results31,go_sem,K,f1]) rfl ?_;have C:=aC.o;rw[av.o,Bool.true_or,Dm rfl]at C;subst C
 exact⟨rfl,qY ad.o O _ _⟩):p:=h
theorem Iv{p:Prop}(h:p:=by
 rw[Dl O,Dl O,Dl O,Dl O,Dl O,Dl O,Dl O,Dl O]):p:=h
variable{i m:Nat}
theorem w3(t:Int)(w:C3):Cy 107 #[(t:Int)] w (Cw (gM t) w):=by
 go_enter func107,ntmps107;go_wp2_with fail
 all_goals go_ret
 all_goals refine⟨zC ?_,rfl⟩
 all_goals go_light
 all_goals(unfold gM;rw[Yg];simp_all)
theorem xN(t:Int)(b:Bool)(h:gM t=b)(w:C3):Cy 107 #[(t:Int)] w (Cw b w):=h▸w3 t w
theorem LU(s:C2):s.toList=[]↔s.size=0:=by
 rw[Yh,Ya];exact List.length_eq_zero_iff.symm
section
variable (ty:Int)(td:C2)(A1 A2 A3:Option Addr)(m1 m2 m3 c1 c2 c3:Nat)(w:C3)
theorem p5(k:Int)(b:Bool)(a:k=4\/k=5\/k=6\/k=7\/k=8\/k=9):
 Cy 132 #[.agg #[(k:Int),(ty:Int),td,(A1,m1,c1),(A2,m2,c2),(A3,m3,c3)]] w (Cv (zj k ty td m1 m2 m3 b) w):=by
 rcases a with rfl|rfl|rfl|rfl|rfl|rfl
 all_goals
  go_enter func132,ntmps132;go_wp2_with fail
  all_goals go_ret
  all_goals refine⟨zC ?_,(Zb.alloc Zr _).alloc Ur _⟩
  all_goals go_light
  all_goals simp_all [zj,eB,LU]
 all_goals omega
theorem p6(k:Int)(g:Bool)(f:k=2\/k=3)(b:Bool)(c:uH td=b):
 Cy 132 #[.agg #[(k:Int),(ty:Int),td,(A1,m1,c1),(A2,m2,c2),(A3,m3,c3)]] w (Cv (zj k ty td m1 m2 m3 g) w):=by
 have a:=U c;clear c;cases b
 all_goals rcases f with rfl|rfl
 all_goals
  go_enter func132,ntmps132;go_wp2_with (go_at_call 106;(with_reducible refine(lT td _ a.o _).mono ?_);rintro e _ ⟨rfl,d⟩;obtain⟨_,_⟩:=qT d)
  all_goals go_ret
  all_goals refine⟨zC ?_,((Zb.alloc Zr _).alloc Ur _).trans (d.mono Uq)⟩
  all_goals have i:=a.o
  all_goals go_light
  all_goals simp_all [zj]
 all_goals omega
theorem w4(l:Bool)(b d:Bool)(f:uH td=b)(i:gM ty=d):
 Cy 132 #[.agg #[(1:Int),(ty:Int),td,(A1,m1,c1),(A2,m2,c2),(A3,m3,c3)]] w (Cv (zj 1 ty td m1 m2 m3 l) w):=by
 have c:=U f;have a:=U i;clear f i;cases d
 .go_enter func132,ntmps132
  go_wp2_with (go_at_call 107;(with_reducible refine(xN ty _ a.o _).mono ?_);rintro e j ⟨rfl,rfl⟩);go_ret;refine⟨zC ?_,(Zb.alloc Zr _).alloc Ur _⟩;have k:=a.o
  go_light
  simp_all [zj]
 .cases b
  all_goals
   go_enter func132,ntmps132
   go_wp2_with (first
    |(go_at_call 107;(with_reducible refine(xN ty _ a.o _).mono ?_);rintro e j ⟨rfl,rfl⟩)
    |(go_at_call 106;(with_reducible refine(lT td _ c.o _).mono ?_);rintro e j ⟨rfl,g⟩;obtain⟨_,_⟩:=qT g))
   all_goals go_ret
   all_goals refine⟨zC ?_,((Zb.alloc Zr _).alloc Ur _).trans (g.mono Uq)⟩
   all_goals have k:=c.o
   all_goals have m:=a.o
   all_goals go_light
   all_goals simp_all [zj]
  all_goals omega
theorem p7(k:Int)(a:Bool)(c:k<1\/10<k):
 Cy 132 #[.agg #[(k:Int),(ty:Int),td,(A1,m1,c1),(A2,m2,c2),(A3,m3,c3)]] w (Cv (zj k ty td m1 m2 m3 a) w):=by
 have n1:(k == 1)=false:=Uq
 have n2:(k == 2)=false:=Uq
 have e:(k == 3)=false:=Uq
 have f:(k == 4)=false:=Uq
 have g:(k == 5)=false:=Uq
 have i:(k == 6)=false:=Uq
 have j:(k == 7)=false:=Uq
 have l:(k == 8)=false:=Uq
 have m:(k == 9)=false:=Uq
 have d:(k == 10)=false:=Uq
 have b:Dk (zj k ty td m1 m2 m3 a=false):=by
  unfold Dk zj;exact Iv
 clear c;go_enter func132,ntmps132;go_wp2_with fail;go_ret;exact⟨zC b.o.symm,(Zb.alloc Zr _).alloc Ur _⟩
end
section
variable (ty:Int)(td:C2)(A1 A2 A3:Option Addr)(m1 m2 m3 c1 c2 c3:Nat)(w:C3)
theorem C7(B:Nat)(tc:List Ex)(d:xA B w (.slice A1 m1 c1) tc)(b:tc.length=m1):
 Cy 132 #[.agg #[(10:Int),(ty:Int),td,(A1,m1,c1),(A2,m2,c2),(A3,m3,c3)]] w (Cv (zj 10 ty td m1 m2 m3 (uN tc)) w):=by
 rcases tc with _|⟨⟨j,op,n,_,_⟩,r⟩
 .subst b
  go_enter func132,ntmps132;go_wp2_with fail
  all_goals go_ret
  all_goals refine⟨zC ?_,(Zb.alloc Zr _).alloc Ur _⟩
  all_goals go_light
  all_goals simp_all [zj]
 .obtain⟨g,o,v,rfl,_,c,_⟩:=d.cells (i:=0) rfl
  have f:w.cell? (g,o)=some (.int .i64 j):=Xe
  have l:=block_lt_of_cell f;have k:0<m1:=by rw[<-b];simp
  clear c b d;go_enter func132,ntmps132;go_wp2_with fail
  all_goals go_ret
  all_goals refine⟨zC ?_,(Zb.alloc Zr _).alloc Ur _⟩
  all_goals go_light
  all_goals simp_all [zj,eB,LU,uN,Ex.kind]
  all_goals first
   |(intros;omega)
   | (have e:m1=1:=by omega
      rw[Yg];simp[e]
      exact⟨fun a=>decide_eq_true a,fun a=>of_decide_eq_true a⟩)
theorem w5(k:Int)(B:Nat)(tc:List Ex)(e:xA B w (.slice A1 m1 c1) tc)(f:tc.length=m1):
 Cy 132 #[.agg #[(k:Int),(ty:Int),td,(A1,m1,c1),(A2,m2,c2),(A3,m3,c3)]] w (Cv (zj k ty td m1 m2 m3 (uN tc)) w):=by
 by_cases a:k=4\/k=5\/k=6\/k=7\/k=8\/k=9
 .exact p5 ty td A1 A2 A3 m1 m2 m3 c1 c2 c3 w k _ a
 by_cases b:k=2\/k=3
 .exact p6 ty td A1 A2 A3 m1 m2 m3 c1 c2 c3 w k _ b _ rfl
 by_cases c:k=1
 .subst c
  exact w4 ty td A1 A2 A3 m1 m2 m3 c1 c2 c3 w _ _ _ rfl rfl
 by_cases d:k=10
 .subst d
  exact C7 ty td A1 A2 A3 m1 m2 m3 c1 c2 c3 w B tc e f
 .exact p7 ty td A1 A2 A3 m1 m2 m3 c1 c2 c3 w k _ O
end
theorem mU(ty:Int)(td:C2)(A1 A2 A3:Option Addr)(m1 m2 m3 c1 c2 c3:Nat)(k:Int)(B:Nat)(tc:List Ex)(b:Bool)(d:tc.length=m1)(c:zj k ty td m1 m2 m3 (uN tc)=b)(w:C3)(a:xA B w (.slice A1 m1 c1) tc):
 Cy 132 #[.agg #[(k:Int),(ty:Int),td,(A1,m1,c1),(A2,m2,c2),(A3,m3,c3)]] w (Cv b w):=
 c▸w5 ty td A1 A2 A3 m1 m2 m3 c1 c2 c3 w k B tc a d
def T4(k:Nat):Prop:=∀(B:Nat) (d:Int) (l:List St) (b:Bool) (v:C4) (w:C3),0<=d->d+k=101->d3 l k=b->d6 B w->B<=w.heap.size->eN B w v l->
 Cy 108 #[v,(d:Int)] w (Cv b w)
theorem T4.call{k:Nat}(a:T4 k)(B:Nat)(d:Int)(l:List St)(b:Bool)(v:C4)(w:C3)(c:0<=d)(g:d+k=101)(f:d3 l k=b)(j:d6 B w)(e:B<=w.heap.size)(i:eN B w v l):
 Cy 108 #[v,(d:Int)] w (Cv b w):=a B d l b v w c g f j e i
theorem gD(k:Nat)(ah:∀c,c+1=k->T4 c):T4 k:=by
 intro B d l b v w _ ad Y ag a J;have aC:d<=101:=O
 have x:=U ad;clear ad;obtain⟨A,cap,rfl,_⟩:=J.form;have C:=U ag;have an:=U J;have q:=U Y;have R:=U ah;clear ag J Y ah;go_enter func108,ntmps108;go_wp2_with fail
 go_loopw [9] (fun iv wr=>∃j:Nat,j<=l.length/\iv=.int .i64 j/\d3 (l.take j) k=true/\Cx w wr) (fun iv _=>l.length-(intOf iv).toNat)
 case atStart=>exact⟨0,Dw _,rfl,uo _,D1 _ _⟩
 case round=>
  obtain⟨j,_,rfl,X,f⟩:=hrel;have N:=U X;clear X;have s:=f.size;by_cases ax:j<l.length
  .obtain⟨⟨ai,ty,td,tc,tg,th⟩,I⟩:∃e,l[j]?=some e:=⟨_,Dz ax⟩
   have r:=U I;obtain⟨g,o,v,_,_,rfl,_,_,_,_,_,_,_,K,L,M⟩:=(an.o.below (f.mono a) Zr).cells I;obtain⟨_,_,rfl,_⟩:=K.form;obtain⟨_,_,rfl,_⟩:=L.form;obtain⟨_,_,rfl,_⟩:=M.form;have z:=U K;have ao:=U L;have ap:=U M;have aD:g<wr.heap.size:=O
   have aB:=f.mono a;have D:B<=wr.heap.size:=Dr a s;clear I K L M;rcases k with _|c
   .have av:decide ((100 :Int)<d)=true:=by have:=x.o;simp;omega
    have aq:Dk (d3 l 0=false):=zg r.o (by rw[jW];simp);go_wp2_with fail;go_ret;exact⟨zC (by rw[<-q.o,aq.o]),f.alloc s _⟩
   .have av:decide ((100 :Int)<d)=false:=by have:=x.o;simp;omega
    have ae:(d+1)+(c:Int)=101:=by have:=x.o;omega
    have af:0<=d+1:=O
    have Q:=U ae;clear ae;obtain⟨S,E⟩:=Cz (zj ai ty td tc.length tg.length th.length (uN tc));obtain⟨T,F⟩:=Cz (zr tc 100);obtain⟨V,G⟩:=Cz (d3 tg c);obtain⟨W,H⟩:=Cz (d3 th c)
    have y:Dk (fG (.mk ai ty td tc tg th) (c+1)=(S&&T&&V&&W)):=by
     unfold Dk;rw[jW,E,F,Yt,G,H];simp
    have P:=U E;have ak:=U F;have al:=U G;have am:=U H;clear E F G H;cases S
    .go_wp2_with (go_at_call 132;(with_reducible refine(mU _ _ _ _ _ _ _ _ _ _ _ _ B tc _ rfl P.o _ (z.o.below (Zb.alloc D _) Zr)).mono ?_);rintro e aj ⟨rfl,i⟩;obtain⟨au,aw⟩:=qT i)
     go_ret;exact⟨zC (by rw[<-q.o,zg r.o y.o]),(f.alloc s _).trans (i.mono Uq)⟩
    .cases T
     case' true=>cases V
     case' true.true=>cases W
     all_goals
      go_wp2_with (first
       |(go_at_call 132;(with_reducible refine(mU _ _ _ _ _ _ _ _ _ _ _ _ B tc _ rfl P.o _ (z.o.below (Zb.alloc D _) Zr)).mono ?_);rintro e aj ⟨rfl,i⟩;obtain⟨au,aw⟩:=qT i;have aE:wr.heap.size<aj.heap.size:=(by have:=i.size;simp at this;omega);have n:=(f.alloc s _).trans (i.mono Uq);have Z:=((D1 B _).alloc D _).trans (i.mono Uq))
       |(go_at_call 133;(with_reducible refine(tE B tc _ ak.o _ _ (C.o.below (n.mono a)) (Dr a n.size) (z.o.below Z Zr)).mono ?_);rintro e az ⟨rfl,t⟩;obtain⟨_,_⟩:=qT t;have aF:wr.heap.size<az.heap.size:=(by have:=t.size;omega);have m:=n.trans (t.mono n.size);have aa:=Z.trans (t.mono (Dr a n.size)))
       |(go_at_call 108;(with_reducible refine((R.o c rfl).call B _ tg _ _ _ af Q.o al.o (C.o.below (m.mono a)) (Dr a m.size) (ao.o.below aa Zr)).mono ?_);rintro e aA ⟨rfl,u⟩;obtain⟨_,_⟩:=qT u;have aG:wr.heap.size<aA.heap.size:=(by have:=u.size;omega);have p:=m.trans (u.mono m.size);have ar:=aa.trans (u.mono (Dr a m.size)))
       |(go_at_call 108;(with_reducible refine((R.o c rfl).call B _ th _ _ _ af Q.o am.o (C.o.below (p.mono a)) (Dr a p.size) (ap.o.below ar Zr)).mono ?_);rintro e _ ⟨rfl,ay⟩;have ab:=p.trans (ay.mono p.size)))
     all_goals first
      |(go_ret;exact⟨zC (by rw[<-q.o,zg r.o y.o]),by first|exact ab|exact p|exact m⟩)
      | (go_roundw
         case rel=>exact⟨j+1,O,by go_num,by rw[kf r.o,N.o,y.o];rfl,ab⟩
         case measure=>simp[intOf];omega)
  .go_wp2_with fail
   go_ret;refine⟨zC ?_,f⟩;rw[<-q.o,<-N.o,D9 O]
theorem g8:∀k,T4 k
 |0=>gD 0 (fun _ b=>O)
 | k+1=>gD (k+1) (fun a b=>by
    obtain rfl:a=k:=O
    exact g8 a)
theorem tF(B:Nat)(l:List St)(b:Bool)(c:d3 l 100=b)(v:C4)(w:C3)(e:d6 B w)(a:B<=w.heap.size)(d:eN B w v l):
 Cy 108 #[v,(1:Int)] w (Cv b w):=g8 100 B 1 l b v w Up Up c e a d
theorem w6(a:Ar)(c:Bool)(i:ud a=c)(w:C3):Cy 85 #[.agg #[a.name,(a.size:Int)]] w (Cv c w):=by
 subst i;obtain⟨b,f⟩:=Cz (uH a.name);have d:=U f;clear f;cases b
 all_goals
  go_enter func85,ntmps85;go_wp2_with (go_at_call 106;(with_reducible refine(lT a.name _ d.o _).mono ?_);rintro e _ ⟨rfl,g⟩;obtain⟨_,_⟩:=qT g)
  all_goals go_ret
  all_goals refine⟨zC ?_,(Zb.alloc Zr _).trans (g.mono Ur)⟩
  all_goals have j:=d.o
  all_goals go_light
  all_goals simp_all [ud]
 all_goals omega
theorem vZ{α:Type}(f:α->Bool){l:List α}{x:α}(h:l[i]?=some x):(l.take (i+1)).all f=((l.take i).all f&&f x):=by
 rw[Yr,h];simp
theorem yH{α:Type}(f:α->Bool){l:List α}{x:α}(b:l[i]?=some x)(a:f x=false):l.all f=false:=by
 rw[Ci];intro c;rw[List.all_eq_true.1 c x (Ye b)]at a;cases a
section
variable (B:Nat)(f:Fu)(A A2:Option Addr)(cap cap2:Nat)(w:C3)
theorem tG(b:(uH f.name&&gM f.type&&decide (f.params.length<=8))=false)(m m2:Nat)(k:f.params.length=m):
 Cy 86 #[.agg #[f.name,(f.type:Int),(A,m,cap),(A2,m2,cap2)]] w (Cv false w):=by
 obtain⟨n,a⟩:=Cz (uH f.name);obtain⟨p,d⟩:=Cz (gM f.type);rw[a,d,k]at b;have c:=U a;have g:=U d;clear a d k;cases n
 .clear b
  go_enter func86,ntmps86;go_wp2_with (go_at_call 106;(with_reducible refine(lT f.name _ c.o _).mono ?_);rintro e l ⟨rfl,a⟩;obtain⟨i,j⟩:=qT a);go_ret;exact⟨rfl,(Zb.alloc Zr _).trans (a.mono Ur)⟩
 .cases p
  .clear b
   go_enter func86,ntmps86
   go_wp2_with (first
    |(go_at_call 106;(with_reducible refine(lT f.name _ c.o _).mono ?_);rintro e l ⟨rfl,a⟩;obtain⟨i,j⟩:=qT a)
    |(go_at_call 107;(with_reducible refine(xN f.type _ g.o _).mono ?_);rintro e q ⟨rfl,rfl⟩))
   go_ret;exact⟨rfl,(Zb.alloc Zr _).trans (a.mono Ur)⟩
  .have r:decide ((8 :Int)<(m:Int))=true:=by simp at b ⊢;omega
   clear b;go_enter func86,ntmps86
   go_wp2_with (first
    |(go_at_call 106;(with_reducible refine(lT f.name _ c.o _).mono ?_);rintro e l ⟨rfl,a⟩;obtain⟨i,j⟩:=qT a)
    |(go_at_call 107;(with_reducible refine(xN f.type _ g.o _).mono ?_);rintro e q ⟨rfl,rfl⟩))
   all_goals first
    |(exfalso;omega)
    |(go_ret;exact⟨rfl,(Zb.alloc Zr _).trans (a.mono Ur)⟩)
theorem tH(N:d6 B w)(l:B<=w.heap.size)(L:e5 B w (.slice A f.params.length cap) f.params)(M:eN B w (.slice A2 f.body.length cap2) f.body)
 (D:(uH f.name&&gM f.type&&decide (f.params.length<=8))=true) (c:Bool) (I:(f.params.all vk&&d3 f.body 100)=c):
 Cy 86 #[.agg #[f.name,(f.type:Int),(A,f.params.length,cap),(A2,f.body.length,cap2)]] w (Cv c w):=by
 simp only[Dv,decide_eq_true_eq]at D;obtain⟨⟨E,F⟩,_⟩:=D;have Q:=U E;have R:=U F;have X:=U N;have V:=U L;have W:=U M;have u:=U I;clear E F N L M I;go_enter func86,ntmps86
 go_wp2_with (first
  |(go_at_call 106;(with_reducible refine(lT f.name _ Q.o _).mono ?_);rintro e d ⟨rfl,m⟩;obtain⟨J,ab⟩:=qT m)
  |(go_at_call 107;(with_reducible refine(xN f.type _ R.o _).mono ?_);rintro e P ⟨rfl,rfl⟩))
 have ae:w.heap.size<d.heap.size:=by have:=m.size;simp at this;omega
 have ag:Cx w d:=(Zb.alloc Zr _).trans (m.mono Ur)
 have K:∀i,d.cell? ⟨w.heap.size,i,none⟩=(#[.string f.name,.int .i64 f.type,.slice A f.params.length cap,.slice A2 f.body.length cap2]:Array C4)[i]?:=fun i=>by
  rw[J _ _ Ur];exact Ds (Dq w _) i
 have S:=U K;have ah:d.cell? (w.heap.size,3)=some (.slice A2 f.body.length cap2):=by rw[S.o];rfl
 clear J ab K
 go_loopw [24] (fun iv wr=>∃j:Nat,j<=f.params.length/\iv=.int .i64 j/\(f.params.take j).all vk=true/\Cx d wr) (fun iv _=>f.params.length-(intOf iv).toNat)
 case atStart=>exact⟨0,Dw _,rfl,rfl,D1 _ _⟩
 case round=>
  obtain⟨j,_,rfl,G,k⟩:=hrel;have t:=U G;clear G;have af:=k.size;have a:Cx w wr:=ag.trans (k.mono O);have ak:wr.cell? (w.heap.size,3)=some (.slice A2 f.body.length cap2):=(k.cell (p:=(w.heap.size,3)) ae).trans ah;have aj:w.heap.size<wr.heap.size:=O
  have Z:B<=wr.heap.size:=O
  by_cases ad:j<f.params.length
  .obtain⟨x,r⟩:∃e,f.params[j]?=some e:=⟨_,Dz ad⟩
   obtain⟨g,o,rfl,_,_,_⟩:=(V.o.below (a.mono l) Zr).cells r;have y:=U r;have ai:g<wr.heap.size:=O
   obtain⟨z,n⟩:=Cz (uH x.name);obtain⟨C,q⟩:=Cz (gM x.type);have v:Dk (vk x=(z&&C)):=by unfold Dk vk;rw[n,q]
   have T:=U n;have Y:=U q;clear r n q;cases z
   case' true=>cases C
   all_goals
    go_wp2_with (first
     |(go_at_call 106;(with_reducible refine(lT x.name _ T.o _).mono ?_);rintro e P ⟨rfl,b⟩;obtain⟨_,_⟩:=qT b)
     |(go_at_call 107;(with_reducible refine(xN x.type _ Y.o _).mono ?_);rintro e _ ⟨rfl,rfl⟩))
   all_goals first
    |(go_ret;exact⟨zC (by rw[<-u.o,yH vk y.o v.o];rfl),(a.alloc O _).trans (b.mono Uq)⟩)
    | (go_roundw
       case rel=>exact⟨j+1,O,by go_num,by rw[vZ vk y.o,t.o,v.o];rfl,(k.alloc af _).trans (b.mono Uq)⟩
       case measure=>simp[intOf];omega)
  .have aa:Dk (f.params.all vk=true):=by unfold Dk;rw[<-t.o,D9 O]
   obtain⟨_,H⟩:=Cz (d3 f.body 100);have s:=U H;clear H;go_wp2_with (go_at_call 108;(with_reducible refine(tF B f.body _ s.o _ _ (X.o.below (a.mono l)) Z (W.o.below (a.mono l) Zr)).mono ?_);rintro e P ⟨rfl,b⟩);go_ret;exact⟨zC (by rw[<-u.o,aa.o,s.o];simp),a.trans (b.mono O)⟩
theorem C8(g:d6 B w)(b:B<=w.heap.size)(d:e5 B w (.slice A f.params.length cap) f.params)(e:eN B w (.slice A2 f.body.length cap2) f.body)(c:Bool)(a:xr f=c):
 Cy 86 #[.agg #[f.name,(f.type:Int),(A,f.params.length,cap),(A2,f.body.length,cap2)]] w (Cv c w):=by
 cases h:(uH f.name&&gM f.type&&decide (f.params.length<=8))with
 |false=>
   have:c=false:=by rw[<-a];unfold xr;rw[h];simp
   subst this;exact tG f A A2 cap cap2 w h _ _ rfl
 |true=>
   refine tH B f A A2 cap cap2 w g b d e h c ?_;rw[<-a];unfold xr;rw[h];simp
end
theorem e7(B:Nat)(p:Pr)(c:Bool)(H:eK p=c)(v v':C4)(w:C3)(I:d6 B w)(q:B<=w.heap.size)(r:eZ B w v p.wa)(u:e0 B w v' p.funcs):
 Cy 62 #[.agg #[v,v']] w (Cv c w):=by
 obtain⟨A,cap,rfl,_⟩:=r.form;obtain⟨A2,cap2,rfl,_⟩:=u.form;have R:=U I;have K:=U r;have M:=U u;have m:=U H;clear I r u H;go_enter func62,ntmps62;go_wp2_with fail
 go_loopw [10] (fun iv wr=>∃j:Nat,j<=p.wa.length/\iv=.int .i64 j/\(p.wa.take j).all ud=true/\Below (w.heap.size+1) (w.alloc (.cells #[(A,p.wa.length,cap),(A2,p.funcs.length,cap2)] 27)) wr) (fun iv _=>p.wa.length-(intOf iv).toNat)
 case atStart=>exact⟨0,Dw _,rfl,rfl,D1 _ _⟩
 case round=>
  obtain⟨j,_,rfl,F,i⟩:=hrel;have C:=U F;clear F;have X:w.heap.size+1<=wr.heap.size:=by have:=i.size;simpa using this
  have J:Cx w wr:=(Zb.alloc Zr _).trans (i.mono O);have ae:B<=wr.heap.size:=O
  by_cases V:j<p.wa.length
  .obtain⟨x,b⟩:∃e,p.wa[j]?=some e:=⟨_,Dz V⟩
   obtain⟨g,o,rfl,S,Z,aa⟩:=(K.o.below (J.mono q) Zr).cells b;have d:=U b;have T:g<wr.heap.size:=O
   obtain⟨n,f⟩:=Cz (ud x);have a:=U f;clear b f;cases n
   all_goals
    go_wp2_with (go_at_call 85;(with_reducible refine(w6 x _ a.o _).mono ?_);rintro e ab ⟨rfl,k⟩)
   .go_ret
    exact⟨zC (by rw[<-m.o];unfold eK;rw[yH ud d.o a.o];rfl),(J.alloc O _).trans (k.mono Uq)⟩
   .go_roundw
    case rel=>exact⟨j+1,O,by go_num,by rw[vZ ud d.o,C.o,a.o];rfl,(i.alloc X _).trans (k.mono Uq)⟩
    case measure=>simp[intOf];omega
  .have L:Dk (p.wa.all ud=true):=by unfold Dk;rw[<-C.o,D9 O]
   have ag:wr.cell? (w.heap.size,1)=some (.slice A2 p.funcs.length cap2):=(i.cell (p:=(w.heap.size,1)) Ur).trans Ur;have af:w.heap.size<wr.heap.size:=O
   go_wp2_with fail
   go_loopw [21] (fun iv ad=>∃j:Nat,j<=p.funcs.length/\iv=.int .i64 j/\(p.funcs.take j).all xr=true/\Below (w.heap.size+1) (w.alloc (.cells #[(A,p.wa.length,cap),(A2,p.funcs.length,cap2)] 27)) ad) (fun iv _=>p.funcs.length-(intOf iv).toNat)
   case atStart=>exact⟨0,Dw _,rfl,rfl,i⟩
   case round=>
    obtain⟨z,_,rfl,G,t⟩:=hrel;have D:=U G;clear G;have Y:w.heap.size+1<=wr.heap.size:=by have:=t.size;simpa using this
    have l:Cx w wr:=(Zb.alloc Zr _).trans (t.mono O);have E:B<=wr.heap.size:=O
    by_cases W:z<p.funcs.length
    .obtain⟨x,b⟩:∃e,p.funcs[z]?=some e:=⟨_,Dz W⟩
     obtain⟨g,o,_,_,rfl,S,Z,aa,_,_,y,s⟩:=(M.o.below (l.mono q) Zr).cells b;obtain⟨A3,_,rfl,_⟩:=y.form;obtain⟨_,_,rfl,_⟩:=s.form;have d:=U b;have P:=U y;have Q:=U s;have T:g<wr.heap.size:=O
     obtain⟨n,f⟩:=Cz (xr x);have a:=U f;clear b f y s;cases n
     all_goals
      go_wp2_with (go_at_call 86;(with_reducible refine(C8 B x _ _ _ _ _ (R.o.below ((l.alloc O _).mono q)) Uq (P.o.below (Zb.alloc E _) Zr) (Q.o.below (Zb.alloc E _) Zr) _ a.o).mono ?_);rintro e ab ⟨rfl,k⟩)
     .go_ret
      exact⟨zC (by rw[<-m.o];unfold eK;rw[yH xr d.o a.o];simp),(l.alloc O _).trans (k.mono Uq)⟩
     .go_roundw
      case rel=>exact⟨z+1,O,by go_num,by rw[vZ xr d.o,D.o,a.o];rfl,(t.alloc Y _).trans (k.mono Uq)⟩
      case measure=>simp[intOf];omega
    .have N:Dk (p.funcs.all xr=true):=by unfold Dk;rw[<-D.o,D9 O]
     go_wp2_with fail;go_ret;exact⟨zC (by rw[<-m.o];unfold eK;rw[L.o,N.o];rfl),l⟩
abbrev lF(a b:Int):Obj:=.cells #[(a:Int),(b:Int)] 62
def LV(w:C3)(R:Int×Nat×Nat)(e:Ending)(w':C3):Prop:=
 e=.returned (.tuple #[(R.1:Int),.agg #[((R.2.1:Int):Int),(eH R.2.2:Int)]])/\Cx w w'
theorem tI{p:Pr}{f:Fu}{r:List Fu}:yo p (f::r) i=if(xt p f).1≠0 then((xt p f).1,i,(xt p f).2)else yo p r (i+1):=by rw[yo]
theorem OW(B:Nat)(p:Pr)(R:Int×Nat×Nat)(bt bu:C4)(w:C3)(bs:d6 B w)(c:B<=w.heap.size)(aW:eZ B w bt p.wa)(a1:e0 B w bu p.funcs)(br:LA p)(aJ:p.wa.length<=1000000)(aK:p.funcs.length<=1000000)(bk:xy p=R):
 Cy 31 #[.agg #[bt,bu]] w (LV w R):=by
 obtain⟨ap,ay,rfl,_⟩:=aW.form;obtain⟨A1,c1,rfl,_⟩:=a1.form;have a4:Cx w ((w.alloc (qW ap p.wa.length ay A1 p.funcs.length c1)).alloc (lF 0 0)):=(Zb.alloc Zr _).alloc Ur _;have G:=U a4;have aG:=C0 (((w.alloc (qW ap p.wa.length ay A1 p.funcs.length c1)).alloc (lF 0 0)).heap[w.heap.size]?=some (qW ap p.wa.length ay A1 p.funcs.length c1)) ((D3 _ _ _ Ur).trans (Dq w _));have ax:=C0 (((w.alloc (qW ap p.wa.length ay A1 p.funcs.length c1)).alloc (lF 0 0)).heap[w.heap.size+1]?=some (lF 0 0)) (by simpa using Dq (w.alloc (qW ap p.wa.length ay A1 p.funcs.length c1)) (lF 0 0));have aw:=U (bs.below (a4.mono c));have n:=U aW;have m:=U a1;have av:=U bk;have aF:=U br;obtain⟨ok,bo⟩:=Cz (eK p);have M:=U bo;clear aW a1 bk bs br a4 bo;cases ok
 case false=>
  go_enter func31,ntmps31
  go_wp2_with (go_at_call 62;(with_reducible refine(e7 B p _ M.o _ _ _ aw.o Uq (n.o.below (G.o.mono c) Zr) (m.o.below (G.o.mono c) Zr)).mono ?_);rintro e l ⟨rfl,i⟩
               have a:=(i.block (w.heap.size+1) Ur).trans ax.o;obtain⟨⟨D,E⟩,F⟩:=zD a;have V:w.heap.size+1<l.heap.size:=zB a;have P:=U a;have N:=C0 (Cx w l) (G.o.trans (i.mono Uq))
               clear i a)
  obtain⟨K,f1⟩:=jd P.o (.int .i64 0) (.int .i64 0);refine bodyPost_ret (v:=.tuple #[(1:Int),.agg #[(0:Int),(0:Int)]]) (by simp[results,results31,go_sem,K,f1]) rfl ?_;have C:=av.o;unfold xy at C;rw[Dm M.o]at C;subst C;exact⟨rfl,qY N.o O _ _⟩
 case true=>
  obtain⟨d,aZ⟩:=Cz ((yK p p.wa || yV p.funcs));obtain⟨st,a3⟩:=Cz (kd p);obtain⟨vW,aL⟩:=Cz (p.wa.map (·.name)++p.funcs.map (·.name));have aE:=U aL;have aD:=U (show rD vW= !d by rw[<-aL,E5,aZ]);have bg:=U a3;have aC:=U (show xy p=if(d || !st)=true then(50,0,0)else yo p p.funcs 0 by unfold xy;rw[Dl (by rw[M.o];decide),aZ,a3])
  have aH:=U (show ∀s∈vW,s.size<=maxLen from fun s am=>by
   rw[<-aL]at am;rcases List.mem_append.1 am with am|am
   .obtain⟨x,a5,rfl⟩:=List.mem_map.1 am
    exact aF.o.1 x a5
   .obtain⟨x,a5,rfl⟩:=List.mem_map.1 am
    exact(aF.o.2 x a5).1)
  clear aZ a3 aL;have bA:d=true\/st=false\/(d=false/\st=true):=by cases d<;>cases st<;>simp
  rcases bA with rfl|rfl|⟨rfl,rfl⟩
  case inl=>
   exact Iu
  case inr.inl=>
   cases d
   case true=>
    exact Iu
   case false=>
    go_enter func31,ntmps31
    go_wp2_with (first
     | (go_at_call 62;(with_reducible refine(e7 B p _ M.o _ _ _ aw.o Uq (n.o.below (G.o.mono c) Zr) (m.o.below (G.o.mono c) Zr)).mono ?_);rintro e l ⟨rfl,i⟩
        have b:=(i.block w.heap.size Uq).trans aG.o;have a:=(i.block (w.heap.size+1) Ur).trans ax.o;obtain⟨⟨H,I⟩,J⟩:=zD b;obtain⟨⟨D,E⟩,F⟩:=zD a;have V:w.heap.size+1<l.heap.size:=zB a;have ak:w.heap.size<l.heap.size:=zB b;have u:Cx w l:=G.o.trans (i.mono Uq);have Z:=U b;have P:=U a;have W:=U (n.o.below (u.mono c) Zr);have X:=U (m.o.below (u.mono c) Zr);have ag:B<=l.heap.size:=O
        have N:=U u
        clear i b a u)
     | (go_at_call 64;(with_reducible refine(uT B p _ _ _ ag W.o X.o aJ aK).mono ?_);rintro e k ⟨a7,rfl,t,q⟩
        rw[aE.o]at t;obtain⟨aM,aT,rfl,_⟩:=t.form;have Y:=U t;have b:=(q.block w.heap.size ak).trans Z.o;have a:=(q.block (w.heap.size+1) V).trans P.o;obtain⟨⟨H,I⟩,J⟩:=zD b;obtain⟨⟨D,E⟩,F⟩:=zD a;have aj:w.heap.size+1<k.heap.size:=zB a;have al:w.heap.size<k.heap.size:=zB b;have y:Cx w k:=N.o.trans (q.mono O);have aa:=U b;have ae:=U a;have aN:=U (n.o.below (y.mono c) Zr);have aP:=U (m.o.below (y.mono c) Zr);have aV:B<=k.heap.size:=O
        have ab:=U y
        clear q b a y t)
     | (go_at_call 63;(with_reducible refine(kh k.heap.size _ _ _ _ Zr Y.o aH.o aD.o).mono ?_);rintro e A ⟨rfl,r⟩
        have b:=(r.block w.heap.size al).trans aa.o;have a:=(r.block (w.heap.size+1) aj).trans ae.o;obtain⟨⟨H,I⟩,J⟩:=zD b;obtain⟨⟨D,E⟩,F⟩:=zD a;have aA:w.heap.size+1<A.heap.size:=zB a;have aB:w.heap.size<A.heap.size:=zB b;have z:Cx w A:=ab.o.trans (r.mono O);have au:=U b;have af:=U a;have aq:=U (n.o.below (z.mono c) Zr);have ar:=U (m.o.below (z.mono c) Zr);have az:B<=A.heap.size:=O
        have ad:=U z
        clear r b a z)
     | (go_at_call 65;(with_reducible refine(j1 B p _ _ _ _ az aq.o ar.o bg.o).mono ?_);rintro e L ⟨rfl,Q⟩
        have b:=(Q.block w.heap.size aB).trans au.o;have a:=(Q.block (w.heap.size+1) aA).trans af.o;obtain⟨⟨H,I⟩,J⟩:=zD b;obtain⟨⟨D,E⟩,F⟩:=zD a;have bp:w.heap.size+1<L.heap.size:=zB a;have bG:w.heap.size<L.heap.size:=zB b;have S:Cx w L:=ad.o.trans (Q.mono O);have be:=U b;have aR:=U a;have bv:=U (n.o.below (S.mono c) Zr);have bx:=U (m.o.below (S.mono c) Zr);have bz:B<=L.heap.size:=O
        have aQ:=U S
        clear Q b a S))
    obtain⟨K,f1⟩:=jd aR.o (.int .i64 0) (.int .i64 0);refine bodyPost_ret (v:=.tuple #[(50:Int),.agg #[(0:Int),(0:Int)]]) (by simp[results,results31,go_sem,K,f1]) rfl ?_;have C:=aC.o;rw[av.o,Bool.false_or,Bool.not_false,Dm rfl]at C;subst C;exact⟨rfl,qY aQ.o O _ _⟩
  case inr.inr=>
   go_enter func31,ntmps31
   go_wp2_with (first
    | (go_at_call 62;(with_reducible refine(e7 B p _ M.o _ _ _ aw.o Uq (n.o.below (G.o.mono c) Zr) (m.o.below (G.o.mono c) Zr)).mono ?_);rintro e l ⟨rfl,i⟩
       have b:=(i.block w.heap.size Uq).trans aG.o;have a:=(i.block (w.heap.size+1) Ur).trans ax.o;obtain⟨⟨H,I⟩,J⟩:=zD b;obtain⟨⟨D,E⟩,F⟩:=zD a;have V:w.heap.size+1<l.heap.size:=zB a;have ak:w.heap.size<l.heap.size:=zB b;have u:Cx w l:=G.o.trans (i.mono Uq);have Z:=U b;have P:=U a;have W:=U (n.o.below (u.mono c) Zr);have X:=U (m.o.below (u.mono c) Zr);have ag:B<=l.heap.size:=O
       have N:=U u
       clear i b a u)
    | (go_at_call 64;(with_reducible refine(uT B p _ _ _ ag W.o X.o aJ aK).mono ?_);rintro e k ⟨a7,rfl,t,q⟩
       rw[aE.o]at t;obtain⟨aM,aT,rfl,_⟩:=t.form;have Y:=U t;have b:=(q.block w.heap.size ak).trans Z.o;have a:=(q.block (w.heap.size+1) V).trans P.o;obtain⟨⟨H,I⟩,J⟩:=zD b;obtain⟨⟨D,E⟩,F⟩:=zD a;have aj:w.heap.size+1<k.heap.size:=zB a;have al:w.heap.size<k.heap.size:=zB b;have y:Cx w k:=N.o.trans (q.mono O);have aa:=U b;have ae:=U a;have aN:=U (n.o.below (y.mono c) Zr);have aP:=U (m.o.below (y.mono c) Zr);have aV:B<=k.heap.size:=O
       have ab:=U y
       clear q b a y t)
    | (go_at_call 63;(with_reducible refine(kh k.heap.size _ _ _ _ Zr Y.o aH.o aD.o).mono ?_);rintro e A ⟨rfl,r⟩
       have b:=(r.block w.heap.size al).trans aa.o;have a:=(r.block (w.heap.size+1) aj).trans ae.o;obtain⟨⟨H,I⟩,J⟩:=zD b;obtain⟨⟨D,E⟩,F⟩:=zD a;have aA:w.heap.size+1<A.heap.size:=zB a;have aB:w.heap.size<A.heap.size:=zB b;have z:Cx w A:=ab.o.trans (r.mono O);have au:=U b;have af:=U a;have aq:=U (n.o.below (z.mono c) Zr);have ar:=U (m.o.below (z.mono c) Zr);have az:B<=A.heap.size:=O
       have ad:=U z
       clear r b a z)
    | (go_at_call 65;(with_reducible refine(j1 B p _ _ _ _ az aq.o ar.o bg.o).mono ?_);rintro e L ⟨rfl,Q⟩
       have b:=(Q.block w.heap.size aB).trans au.o;have a:=(Q.block (w.heap.size+1) aA).trans af.o;obtain⟨⟨H,I⟩,J⟩:=zD b;obtain⟨⟨D,E⟩,F⟩:=zD a;have bp:w.heap.size+1<L.heap.size:=zB a;have bG:w.heap.size<L.heap.size:=zB b;have S:Cx w L:=ad.o.trans (Q.mono O);have be:=U b;have aR:=U a;have bv:=U (n.o.below (S.mono c) Zr);have bx:=U (m.o.below (S.mono c) Zr);have bz:B<=L.heap.size:=O
       have aQ:=U S
       clear Q b a S))
   go_loopw [25] (fun iv wr=>∃j:Nat,j<=p.funcs.length/\iv=.int .i64 j/\yo p (p.funcs.drop j) j=R/\Cx L wr) (fun iv _=>p.funcs.length-(intOf iv).toNat)
   case atStart=>exact⟨0,Dw _,rfl,by have:=aC.o;rw[av.o]at this;exact this.symm,D1 _ _⟩
   case round=>
    obtain⟨j,_,rfl,bl,ai⟩:=hrel;have bm:=U bl;have bw:=U ai;have bF:=ai.size;have ao:Cx w wr:=aQ.o.trans (ai.mono O);have bi:=U ao;have a6:=(ai.block (w.heap.size+1) bp).trans aR.o;obtain⟨⟨D,E⟩,F⟩:=zD a6;obtain⟨⟨H,I⟩,J⟩:=zD ((ai.block w.heap.size O).trans be.o);have aS:=U a6;have bq:w.heap.size+1<wr.heap.size:=O
    have bI:w.heap.size<wr.heap.size:=O
    clear bl a6;by_cases bC:j<p.funcs.length
    .obtain⟨f,aI⟩:∃e,p.funcs[j]?=some e:=⟨_,Dz bC⟩
     obtain⟨g,o,_,_,rfl,_,_,_,_,_,a2,aX⟩:=(m.o.below (ao.mono c) Zr).cells aI;obtain⟨A2,c2,rfl,_⟩:=a2.form;obtain⟨A3,c3,rfl,_⟩:=aX.form;have bH:g<wr.heap.size:=O
     have an:Cx wr (wr.alloc (E6 f.name f.type (.slice A2 f.params.length c2) (.slice A3 f.body.length c3))):=Zb.alloc Zr _;have bf:=U (a2.below (an.mono O) Zr);have a9:=U (aX.below (an.mono O) Zr);have a8:=U (n.o.below ((ao.trans (an.mono O)).mono c) Zr);have bc:=U (m.o.below ((ao.trans (an.mono O)).mono c) Zr);have bh:=U an;have bd:=U (Ye aI);obtain⟨⟨aU,n1⟩,aY⟩:=Cz (xt p f);have ba:=U aY;have a0:=bm.o;rw[fL aI,tI,aY]at a0;have bb:=U a0;clear a2 aX an aI aY a0 ai ao;by_cases bn:aU=0
     .subst bn
      go_wp2_with (go_at_call 66;(with_reducible refine(mD B p f M.o aF.o bd.o _ _ _ _ _ Uq a8.o bc.o bf.o a9.o _ ba.o).mono ?_);rintro e w8 ⟨rfl,ah⟩
                   have T:=(ah.block (w.heap.size+1) Uq).trans ((D3 wr _ _ bq).trans aS.o);obtain⟨⟨D,E⟩,F⟩:=zD T;have bD:w.heap.size+1<w8.heap.size:=zB T;have bj:=U T;have aO:=U ah
                   clear ah T)
      go_roundw
      case rel=>exact⟨j+1,O,by go_num,by have:=bb.o;rw[Dl (show ¬(0 :Int)≠0 by decide)]at this;exact this,bw.o.trans ((bh.o.trans (aO.o.mono Ur)).mono bF)⟩
      case measure=>simp[intOf];omega
     .go_wp2_with (go_at_call 66;(with_reducible refine(mD B p f M.o aF.o bd.o _ _ _ _ _ Uq a8.o bc.o bf.o a9.o _ ba.o).mono ?_);rintro e w8 ⟨rfl,ah⟩
                   have T:=(ah.block (w.heap.size+1) Uq).trans ((D3 wr _ _ bq).trans aS.o);obtain⟨⟨D,E⟩,F⟩:=zD T;have bD:w.heap.size+1<w8.heap.size:=zB T;have bj:=U T;have aO:=U ah
                   clear ah T)
      obtain⟨K,f1⟩:=jd bj.o (.int .i64 (j:Int)) (.int .i64 (eH n1));refine bodyPost_ret (v:=.tuple #[(aU:Int),.agg #[((j:Int):Int),(eH n1:Int)]]) (by simp[results,results31,go_sem,K,f1]) rfl ?_;have C:=bb.o;rw[Dm (show aU≠0 from bn)]at C;subst C;exact⟨rfl,qY (bi.o.trans ((bh.o.trans (aO.o.mono Ur)).mono O)) O _ _⟩
    .clear ai ao
     go_wp2_with fail;obtain⟨K,f1⟩:=jd aS.o (.int .i64 0) (.int .i64 0);refine bodyPost_ret (v:=.tuple #[(0:Int),.agg #[(0:Int),(0:Int)]]) (by simp[results,results31,go_sem,K,f1]) rfl ?_;have C:=bm.o;rw[List.drop_of_length_le O,yo]at C;subst C;exact⟨rfl,qY bi.o O _ _⟩
theorem mV(s:C2):s.toList=[]↔s.size=0:=by
 rw[Yh,Ya];exact List.length_eq_zero_iff.symm
theorem OX(op:Int)(w:C3):Cy 104 #[(op:Int)] w (Cw (decide (20<=op/\op<=28)) w):=by
 go_enter func104,ntmps104;go_wp2_with fail
 all_goals go_ret
 all_goals refine⟨zC ?_,rfl⟩
 all_goals go_light
 all_goals(rw[Yg];simp;try omega)
def RxC(m:Nat):Prop:=∀(B:Nat) (z:Int) (k op n:Int) (td:C2) (tc:List Ex) (A:Option Addr) (cap:Nat) (c:Bool) (w:C3),z=(m:Int)->1<=m->m<=1000->vA (.mk k op n td tc) m=c->B<=w.heap.size->xA B w (.slice A tc.length cap) tc->
 Cy 84 #[.agg #[(k:Int),(op:Int),(n:Int),td,(A,tc.length,cap)],(z:Int)] w (Cv c w)
theorem RxC.call(a:RxC m)(B:Nat)(z:Int)(k op n:Int)(td:C2)(tc:List Ex)(A:Option Addr)(cap:Nat)(c:Bool)(w:C3)(i:z=(m:Int))(b:1<=m)(d:m<=1000)(f:vA (.mk k op n td tc) m=c)(e:B<=w.heap.size)(g:xA B w (.slice A tc.length cap) tc):
 Cy 84 #[.agg #[(k:Int),(op:Int),(n:Int),td,(A,tc.length,cap)],(z:Int)] w (Cv c w):=a B z k op n td tc A cap c w i b d f e g
theorem tJ(m:Nat)(ak:∀m',m'+1=m->RxC m'):RxC m:=by
 intro B z k op n td tc A cap c w aj ae ar ad an Q;have T:=U Q;have L:=U ak;have s:=U ad;have x:=U aj;have au:tc.length<=281474976710656:=by obtain⟨_,_,_,C⟩:=Q.form;exact C
 have aw:1<=z:=O
 have ax:z<=1000:=O
 clear Q ak ad aj;go_enter func84,ntmps84;go_wp2_with fail
 go_loopw [5] (fun iv wr=>∃i:Nat,i<=tc.length/\iv=.int .i64 i/\zr (tc.take i) (m-1)=true/\Below (w.heap.size+1) (w.alloc (.cells #[(k:Int),(op:Int),(n:Int),td,(A,tc.length,cap)] 147)) wr) (fun iv _=>tc.length-(intOf iv).toNat)
 case atStart=>exact⟨0,Dw _,rfl,um _,D1 _ _⟩
 case round=>
  obtain⟨i,_,rfl,aa,j⟩:=hrel;have I:=U aa;clear aa;have av:w.heap.size+1<=wr.heap.size:=by have:=j.size;simpa using this
  have a:Cx w wr:=(Zb.alloc Zr _).trans (j.mono O);have Z:B<=wr.heap.size:=O
  have aG:w.heap.size<wr.heap.size:=O
  have p:wr.heap[w.heap.size]?=some (.cells #[(k:Int),(op:Int),(n:Int),td,(A,tc.length,cap)] 147 (0,0)):=(j.block _ O).trans (Dq w _);have E:wr.cell? (w.heap.size,0)=some (.int .i64 k):=Kb
  have F:wr.cell? (w.heap.size,1)=some (.int .i64 op):=Kb
  have G:wr.cell? (w.heap.size,2)=some (.int .i64 n):=Kb
  have H:wr.cell? (w.heap.size,3)=some (.string td):=Kb
  have q:wr.cell? (w.heap.size,4)=some (.slice A tc.length cap):=Kb
  clear p;by_cases N:i<tc.length
  .obtain⟨⟨ay,aD,aA,aB,am⟩,M⟩:∃e,tc[i]?=some e:=⟨_,Dz N⟩
   obtain⟨g,o,v,rfl,_,_,_,_,_,q4,R⟩:=(T.o.below (a.mono an) Zr).cells M;obtain⟨_,_,rfl,_⟩:=R.form;have J:=U M;have V:=U R;have aF:g<wr.heap.size:=O
   clear M R;by_cases P:m=1
   .have ao:z<2:=by have:=x.o;omega
    have K:Dk (c=false):=by
     unfold Dk;rw[<-s.o,ju,vQ J.o (by rw[P,ju];simp)];simp
    clear P;go_wp2_with fail;go_ret;exact⟨zC K.o.symm,a⟩
   .have ao:¬z<2:=by have:=x.o;omega
    obtain⟨m',rfl⟩:∃m',m=m'+1:=⟨m-1,O⟩
    have W:Dk (z-1=(m':Int)):=by have:=x.o;unfold Dk;omega
    have af:1<=m':=O
    have ag:m'<=1000:=O
    obtain⟨b,ab⟩:=Cz (vA (.mk ay aD aA aB am) m');have r:=U ab;clear ab P;cases b
    .have K:Dk (c=false):=by
      unfold Dk;rw[<-s.o,ju,Yt,vQ J.o r.o];simp
     go_wp2_with (go_at_call 84;(with_reducible refine((L.o m' rfl).call B _ _ _ _ _ _ _ _ _ _ W.o af ag r.o Z V.o).mono ?_);rintro e l ⟨rfl,S⟩);go_ret;exact⟨zC K.o.symm,a.trans (S.mono O)⟩
    .go_wp2_with (go_at_call 84;(with_reducible refine((L.o m' rfl).call B _ _ _ _ _ _ _ _ _ _ W.o af ag r.o Z V.o).mono ?_);rintro e l ⟨rfl,S⟩)
     go_roundw
     case rel=>exact⟨i+1,O,by go_num,by rw[j7 J.o,I.o,Yt,r.o];rfl,j.trans (S.mono av)⟩
     case measure=>simp[intOf];omega
  .have d:Dk (c=zk k op n td tc.length):=by
    have y:zr tc (m-1)=true:=by rw[<-I.o,D9 O]
    unfold Dk;rw[<-s.o,ju,y];have:decide (1<=m)=true:=by simpa using ae
    rw[this];simp
   obtain⟨aC,ah⟩:=Cz (uH td);obtain⟨al,ai⟩:∃al,decide (20<=op/\op<=28)=al:=⟨_,rfl⟩
   obtain⟨az,D⟩:=Cz tc.length;have f:=U ah;have u:=U ai;rw[D]at au q d N;have aq:i=az:=O
   subst aq;have t:=U D;rw[D];clear ah ai D N ae ar T L s I x aw ax;by_cases y:k=1\/k=2\/k=8
   .rcases y with rfl|rfl|rfl
    all_goals
     go_wp2_with (go_at_call 50;(with_reducible refine(qo td _ f.o _).mono ?_);rintro e l ⟨rfl,rfl⟩)
     all_goals go_ret
     all_goals refine⟨zC ?_,a⟩
     all_goals rw[d.o]
     all_goals clear j a E F G H q d u f t
     all_goals go_light
     all_goals simp_all [zk,eB,mV]
     all_goals first|omega|(rw[Yg];simp;omega)|(rw[Yg];simp;done)
   by_cases C:k=3\/k=6\/k=7
   .rcases C with rfl|rfl|rfl
    all_goals cases aC
    all_goals
     go_wp2_with (go_at_call 50;(with_reducible refine(qo td _ f.o _).mono ?_);rintro e l ⟨rfl,rfl⟩)
     all_goals go_ret
     all_goals refine⟨zC ?_,a⟩
     all_goals rw[d.o]
     all_goals have aE:=f.o
     all_goals clear j a E F G H q d u f t
     all_goals go_light
     all_goals simp_all [zk]
     all_goals first|omega|(rw[Yg];simp;omega)|(rw[Yg];simp;done)
   by_cases X:k=4
   .subst X
    all_goals
     go_wp2_with (first
      |(go_at_call 50;(with_reducible refine(qo td _ f.o _).mono ?_);rintro e l ⟨rfl,rfl⟩)
      |(go_at_call 104;(with_reducible refine(OX _ _).mono ?_);rintro e l ⟨rfl,rfl⟩))
     all_goals go_ret
     all_goals refine⟨zC ?_,a⟩
     all_goals rw[d.o]
     all_goals clear j a E F G H q d u f t
     all_goals go_light
     all_goals simp_all [zk,eB,mV]
     all_goals first|omega|(rw[Yg];simp;omega)|(rw[Yg];simp;done)
   by_cases Y:k=5
   .subst Y
    go_wp2_with (first
     |(go_at_call 50;(with_reducible refine(qo td _ f.o _).mono ?_);rintro e l ⟨rfl,rfl⟩)
     |(go_at_call 105;(with_reducible refine(rV _ _).mono ?_);rintro e l ⟨rfl,rfl⟩))
    all_goals go_ret
    all_goals refine⟨zC ?_,a⟩
    all_goals rw[d.o]
    all_goals clear j a E F G H q d u f t
    all_goals go_light
    all_goals simp_all [zk,eB,mV]
    all_goals first|omega|(rw[Yg];simp;omega)|(rw[Yg];simp;done)
   .have n1:(k == 1)=false:=by simp;omega
    have n2:(k == 2)=false:=Uq
    have aH:(k == 3)=false:=Uq
    have aI:(k == 4)=false:=Uq
    have aJ:(k == 5)=false:=Uq
    have aK:(k == 6)=false:=Uq
    have aL:(k == 7)=false:=Uq
    have aM:(k == 8)=false:=Uq
    have ap:Dk (c=false):=by
     unfold Dk;rw[d.o];unfold zk;exact Iv
    clear y C X Y;go_wp2_with (go_at_call 50;(with_reducible refine(qo td _ f.o _).mono ?_);rintro e l ⟨rfl,rfl⟩)
    all_goals go_ret
    all_goals exact⟨zC ap.o.symm,a⟩
theorem A6:∀m,RxC m
 |0=>tJ 0 (fun _ h=>O)
 | m+1=>tJ (m+1) (fun m' h=>by
    obtain rfl:m'=m:=O
    exact A6 m')
theorem JQ{k ty:Int}{td:C2}{m2 m3:Nat}{c:Bool}(a:zj k ty td m m2 m3 c=true):k=1\/k=2\/k=3\/k=4\/k=5\/k=6\/k=7\/k=8\/k=9\/k=10:=by
 by_cases b:k=1\/k=2\/k=3\/k=4\/k=5\/k=6\/k=7\/k=8\/k=9\/k=10
 .exact b
 .exfalso
  unfold zj at a;rw[Dl O,Dl O,Dl O,Dl O,Dl O,Dl O,Dl O,Dl O]at a;cases a
def XF(k:Int):Bool:=decide (k=1)
def XG(k:Int):Bool:=decide (k=1\/k=2\/k=3)
def XH(k:Int):Int:=if k=3 then 2 else if k=6\/k=7 then 0 else if 1<=k/\k<=10 then 1 else -1
def shB(k:Int):Bool:=decide (k=4\/k=5)
def shE(k:Int):Bool:=decide (k=4)
theorem OY(k:Int)(w:C3):Cy 83 #[(k:Int)] w (Cw (.tuple #[.bool (XF k),.bool (XG k),(XH k:Int),.bool (shB k),.bool (shE k)]) w):=by
 by_cases a:1<=k/\k<=10
 .obtain rfl|rfl|rfl|rfl|rfl|rfl|rfl|rfl|rfl|rfl:k=1\/k=2\/k=3\/k=4\/k=5\/k=6\/k=7\/k=8\/k=9\/k=10:=by omega
  all_goals
   clear a;go_enter func83,ntmps83;go_wp2_with fail;exact bodyPost_ret (v:=.tuple #[.bool (XF _),.bool (XG _),.int .i64 (XH _),.bool (shB _),.bool (shE _)]) (by simp[results,results83,go_sem];decide) rfl ⟨rfl,rfl⟩
 .have n1:(k == 1)=false:=by simp;omega
  have n2:(k == 2)=false:=Uq
  have j:(k == 3)=false:=Uq
  have l:(k == 4)=false:=Uq
  have m:(k == 5)=false:=Uq
  have n:(k == 6)=false:=Uq
  have p:(k == 7)=false:=Uq
  have q:(k == 8)=false:=Uq
  have r:(k == 9)=false:=Uq
  have i:(k == 10)=false:=Uq
  have g:Dk (XF k=false/\XG k=false/\XH k= -1/\shB k=false/\shE k=false):=by
   unfold Dk XF XG XH shB shE;refine⟨Uq,Uq,?_,Uq,Uq⟩;rw[Dl O,Dl O,Dl a]
  clear a;go_enter func83,ntmps83;go_wp2_with fail;obtain⟨b,c,d,e,f⟩:=g.o;rw[b,c,d,e,f];exact bodyPost_ret (v:=.tuple #[.bool false,.bool false,(-1:Int),.bool false,.bool false]) (by simp[results,results83,go_sem]) rfl ⟨rfl,rfl⟩
def RsC(m:Nat):Prop:=∀(B:Nat) (z:Int) (l:List St) (c:Bool) (v:C4) (w:C3),z=(m:Int)->m<=1000->d3 l m=c->B<=w.heap.size->eN B w v l->
 Cy 61 #[v,(z:Int)] w (Cv c w)
theorem RsC.call(a:RsC m)(B:Nat)(z:Int)(l:List St)(c:Bool)(v:C4)(w:C3)(g:z=(m:Int))(e:m<=1000)(d:d3 l m=c)(b:B<=w.heap.size)(f:eN B w v l):
 Cy 61 #[v,(z:Int)] w (Cv c w):=a B z l c v w g e d b f
def f1(k ty:Int)(td:C2)(a:Nat):Bool:=decide ((a:Int)=XH k)&&(XF k == gM ty)&&(XF k || decide (ty=0))&&(XG k == uH td)&&(XG k || eB td)
def f3(k:Int)(a b:Nat)(c:Bool):Bool:=(shB k || decide (a=0))&&(shE k || decide (b=0))&&(!(decide (k=10)) || c)
theorem T5{s:C2}(a:eB s=true):uH s=false:=by
 have b:s.size=0:=by simpa[eB]using a
 have:s.data.toList=[]:=Yj b;unfold uH;rw[this];rfl
theorem GG(k ty:Int)(td:C2)(a b c:Nat)(e:Bool):zj k ty td a b c e=(f1 k ty td a&&f3 k b c e):=by
 by_cases d:1<=k/\k<=10
 .have j:eB td=true->uH td=false:=T5
  have l:ty=0->gM ty=false:=fun d=>by rw[d];rfl
  obtain rfl|rfl|rfl|rfl|rfl|rfl|rfl|rfl|rfl|rfl:k=1\/k=2\/k=3\/k=4\/k=5\/k=6\/k=7\/k=8\/k=9\/k=10:=O
  all_goals
   clear d;rw[Yg];simp[zj,f1,f3,XH,XF,XG,shB,shE]
   first
    |(constructor<;>intro i<;>simp_all)
    |(intro _;constructor<;>intro i<;>simp_all)
  all_goals omega
 .have f:zj k ty td a b c e=false:=by
   cases hf:zj k ty td a b c e with
   |false=>rfl
   |true=>exact absurd (JQ hf) O
  have g:f1 k ty td a=false:=by
   unfold f1 XH;rw[Dl O,Dl O,Dl d];have:decide ((a:Int)= -1)=false:=Ur
   rw[this];rfl
  rw[f,g];rfl
theorem T6(k:Int)(e d a b:Bool)(c:Int)(f:XF k=e)(g:XG k=d)(i:XH k=c)(j:shB k=a)(l:shE k=b)(w:C3):
 Cy 83 #[(k:Int)] w (Cw (.tuple #[.bool e,.bool d,(c:Int),.bool a,.bool b]) w):=by
 subst f g i j l;exact OY k w
