import Derived.Test.YtjadgpiafjdnfaaGreatDoorAoTyBl
set_option linter.unusedSimpArgs false
set_option linter.unusedVariables false
set_option maxRecDepth 100000
set_option maxHeartbeats 99000000
namespace Go.Proofs.YtjadgpiafjdnfaaGreatDoor
open Go.RowKit Tryz
theorem Iw{p:Prop}(h:p:=by
 go_enter func15,ntmps15
 go_wp2_with (first
  | (go_at_call 27;(with_reducible refine(ui B p _ M.o _ _ _ aw.o Ut (n.o.below (G.o.mono c) Zr) (m.o.below (G.o.mono c) Zr)).mono ?_);rintro e l ⟨rfl,i⟩
     have b:=(i.block w.heap.size Ut).trans aG.o;have a:=(i.block (w.heap.size+1) Uu).trans ax.o;obtain⟨⟨H,I⟩,J⟩:=zG b;obtain⟨⟨D,E⟩,F⟩:=zG a;have V:w.heap.size+1<l.heap.size:=zB a;have ak:w.heap.size<l.heap.size:=zB b;have u:C2 w l:=G.o.trans (i.mono Ut);have Z:=U b;have P:=U a;have W:=U (n.o.below (u.mono c) Zr);have X:=U (m.o.below (u.mono c) Zr);have ag:B<=l.heap.size:=O;have N:=U u
     clear i b a u)
  | (go_at_call 29;(with_reducible refine(uA B p _ _ _ ag W.o X.o aJ aK).mono ?_);rintro e k ⟨a7,rfl,t,q⟩
     rw[aE.o]at t;obtain⟨aM,aT,rfl,_⟩:=t.form;have Y:=U t;have b:=(q.block w.heap.size ak).trans Z.o;have a:=(q.block (w.heap.size+1) V).trans P.o;obtain⟨⟨H,I⟩,J⟩:=zG b;obtain⟨⟨D,E⟩,F⟩:=zG a;have aj:w.heap.size+1<k.heap.size:=zB a;have al:w.heap.size<k.heap.size:=zB b;have y:C2 w k:=N.o.trans (q.mono O);have aa:=U b;have ae:=U a;have aN:=U (n.o.below (y.mono c) Zr);have aP:=U (m.o.below (y.mono c) Zr);have aV:B<=k.heap.size:=O;have ab:=U y
     clear q b a y t)
  | (go_at_call 28;(with_reducible refine(kb k.heap.size _ _ _ _ Zr Y.o aH.o aD.o).mono ?_);rintro e A ⟨rfl,r⟩
     have b:=(r.block w.heap.size al).trans aa.o;have a:=(r.block (w.heap.size+1) aj).trans ae.o;obtain⟨⟨H,I⟩,J⟩:=zG b;obtain⟨⟨D,E⟩,F⟩:=zG a;have aA:w.heap.size+1<A.heap.size:=zB a;have aB:w.heap.size<A.heap.size:=zB b;have z:C2 w A:=ab.o.trans (r.mono O);have au:=U b;have af:=U a;have aq:=U (n.o.below (z.mono c) Zr);have ar:=U (m.o.below (z.mono c) Zr);have az:B<=A.heap.size:=O;have ad:=U z
     clear r b a z))
 obtain⟨K,f1⟩:=js af.o (.int .i64 0) (.int .i64 0);refine bodyPost_ret (v:=.tuple #[(50:Int),.agg #[(0:Int),(0:Int)]]) (by simp[results,results15,go_sem,K,f1]) rfl ?_;have C:=aC.o;rw[av.o,Bool.true_or,Dq rfl]at C;subst C
 exact⟨rfl,qx ad.o O _ _⟩):p:=h
theorem Ix{p:Prop}(h:p:=by
 rw[Dp O,Dp O,Dp O,Dp O,Dp O,Dp O,Dp O,Dp O]):p:=h
variable{i m:Nat}
theorem y0(t:Int)(w:C7):C3 79 #[(t:Int)] w (C0 (hH t) w):=by
 go_enter func79,ntmps79;go_wp2_with fail
 all_goals go_ret
 all_goals refine⟨zC ?_,rfl⟩
 all_goals go_light
 all_goals(unfold hH;rw[Yk];simp_all)
theorem xH(t:Int)(b:Bool)(h:hH t=b)(w:C7):C3 79 #[(t:Int)] w (C0 b w):=h▸y0 t w
theorem LQ(s:C6):s.toList=[]↔s.size=0:=by
 rw[Ym,Yf];exact List.length_eq_zero_iff.symm
section
variable (ty:Int)(td:C6)(A1 A2 A3:Option Addr)(m1 m2 m3 c1 c2 c3:Nat)(w:C7)
theorem q1(k:Int)(b:Bool)(a:k=4\/k=5\/k=6\/k=7\/k=8\/k=9):
 C3 104 #[.agg #[(k:Int),(ty:Int),td,(A1,m1,c1),(A2,m2,c2),(A3,m3,c3)]] w (Cz (zo k ty td m1 m2 m3 b) w):=by
 rcases a with rfl|rfl|rfl|rfl|rfl|rfl
 all_goals
  go_enter func104,ntmps104;go_wp2_with fail
  all_goals go_ret
  all_goals refine⟨zC ?_,(Zb.alloc Zr _).alloc Uu _⟩
  all_goals go_light
  all_goals simp_all [zo,eB,LQ]
 all_goals omega
theorem q2(k:Int)(g:Bool)(f:k=2\/k=3)(b:Bool)(c:us td=b):
 C3 104 #[.agg #[(k:Int),(ty:Int),td,(A1,m1,c1),(A2,m2,c2),(A3,m3,c3)]] w (Cz (zo k ty td m1 m2 m3 g) w):=by
 have a:=U c;clear c;cases b
 all_goals rcases f with rfl|rfl
 all_goals
  go_enter func104,ntmps104;go_wp2_with (go_at_call 78;(with_reducible refine(l8 td _ a.o _).mono ?_);rintro e _ ⟨rfl,d⟩;obtain⟨_,_⟩:=qW d)
  all_goals go_ret
  all_goals refine⟨zC ?_,((Zb.alloc Zr _).alloc Uu _).trans (d.mono Ut)⟩
  all_goals have i:=a.o
  all_goals go_light
  all_goals simp_all [zo]
 all_goals omega
theorem y1(l:Bool)(b d:Bool)(f:us td=b)(i:hH ty=d):
 C3 104 #[.agg #[(1:Int),(ty:Int),td,(A1,m1,c1),(A2,m2,c2),(A3,m3,c3)]] w (Cz (zo 1 ty td m1 m2 m3 l) w):=by
 have c:=U f;have a:=U i;clear f i;cases d
 .go_enter func104,ntmps104
  go_wp2_with (go_at_call 79;(with_reducible refine(xH ty _ a.o _).mono ?_);rintro e j ⟨rfl,rfl⟩);go_ret;refine⟨zC ?_,(Zb.alloc Zr _).alloc Uu _⟩;have k:=a.o
  go_light
  simp_all [zo]
 .cases b
  all_goals
   go_enter func104,ntmps104
   go_wp2_with (first
    |(go_at_call 79;(with_reducible refine(xH ty _ a.o _).mono ?_);rintro e j ⟨rfl,rfl⟩)
    |(go_at_call 78;(with_reducible refine(l8 td _ c.o _).mono ?_);rintro e j ⟨rfl,g⟩;obtain⟨_,_⟩:=qW g))
   all_goals go_ret
   all_goals refine⟨zC ?_,((Zb.alloc Zr _).alloc Uu _).trans (g.mono Ut)⟩
   all_goals have k:=c.o
   all_goals have m:=a.o
   all_goals go_light
   all_goals simp_all [zo]
  all_goals omega
theorem q3(k:Int)(a:Bool)(c:k<1\/10<k):
 C3 104 #[.agg #[(k:Int),(ty:Int),td,(A1,m1,c1),(A2,m2,c2),(A3,m3,c3)]] w (Cz (zo k ty td m1 m2 m3 a) w):=by
 have n1:(k == 1)=false:=Ut
 have n2:(k == 2)=false:=Ut
 have e:(k == 3)=false:=Ut
 have f:(k == 4)=false:=Ut
 have g:(k == 5)=false:=Ut
 have i:(k == 6)=false:=Ut
 have j:(k == 7)=false:=Ut
 have l:(k == 8)=false:=Ut
 have m:(k == 9)=false:=Ut
 have d:(k == 10)=false:=Ut
 have b:Do (zo k ty td m1 m2 m3 a=false):=by
  unfold Do zo;exact Ix
 clear c;go_enter func104,ntmps104;go_wp2_with fail;go_ret;exact⟨zC b.o.symm,(Zb.alloc Zr _).alloc Uu _⟩
end
section
variable (ty:Int)(td:C6)(A1 A2 A3:Option Addr)(m1 m2 m3 c1 c2 c3:Nat)(w:C7)
theorem DT(B:Nat)(tc:List Ex)(d:kW B w (.slice A1 m1 c1) tc)(b:tc.length=m1):
 C3 104 #[.agg #[(10:Int),(ty:Int),td,(A1,m1,c1),(A2,m2,c2),(A3,m3,c3)]] w (Cz (zo 10 ty td m1 m2 m3 (QP tc)) w):=by
 rcases tc with _|⟨⟨j,op,n,_,_⟩,r⟩
 .subst b
  go_enter func104,ntmps104;go_wp2_with fail
  all_goals go_ret
  all_goals refine⟨zC ?_,(Zb.alloc Zr _).alloc Uu _⟩
  all_goals go_light
  all_goals simp_all [zo]
 .obtain⟨g,o,v,rfl,_,c,_⟩:=d.cells (i:=0) rfl
  have f:w.cell? (g,o)=some (.int .i64 j):=Xk
  have l:=block_lt_of_cell f;have k:0<m1:=by rw[<-b];simp
  clear c b d;go_enter func104,ntmps104;go_wp2_with fail
  all_goals go_ret
  all_goals refine⟨zC ?_,(Zb.alloc Zr _).alloc Uu _⟩
  all_goals go_light
  all_goals simp_all [zo,eB,LQ,QP,Ex.kind]
  all_goals first
   |(intros;omega)
   | (have e:m1=1:=by omega
      rw[Yk];simp[e]
      exact⟨fun a=>decide_eq_true a,fun a=>of_decide_eq_true a⟩)
theorem y2(k:Int)(B:Nat)(tc:List Ex)(e:kW B w (.slice A1 m1 c1) tc)(f:tc.length=m1):
 C3 104 #[.agg #[(k:Int),(ty:Int),td,(A1,m1,c1),(A2,m2,c2),(A3,m3,c3)]] w (Cz (zo k ty td m1 m2 m3 (QP tc)) w):=by
 by_cases a:k=4\/k=5\/k=6\/k=7\/k=8\/k=9
 .exact q1 ty td A1 A2 A3 m1 m2 m3 c1 c2 c3 w k _ a
 by_cases b:k=2\/k=3
 .exact q2 ty td A1 A2 A3 m1 m2 m3 c1 c2 c3 w k _ b _ rfl
 by_cases c:k=1
 .subst c
  exact y1 ty td A1 A2 A3 m1 m2 m3 c1 c2 c3 w _ _ _ rfl rfl
 by_cases d:k=10
 .subst d
  exact DT ty td A1 A2 A3 m1 m2 m3 c1 c2 c3 w B tc e f
 .exact q3 ty td A1 A2 A3 m1 m2 m3 c1 c2 c3 w k _ O
end
theorem nA(ty:Int)(td:C6)(A1 A2 A3:Option Addr)(m1 m2 m3 c1 c2 c3:Nat)(k:Int)(B:Nat)(tc:List Ex)(b:Bool)(d:tc.length=m1)(c:zo k ty td m1 m2 m3 (QP tc)=b)(w:C7)(a:kW B w (.slice A1 m1 c1) tc):
 C3 104 #[.agg #[(k:Int),(ty:Int),td,(A1,m1,c1),(A2,m2,c2),(A3,m3,c3)]] w (Cz b w):=
 c▸y2 ty td A1 A2 A3 m1 m2 m3 c1 c2 c3 w k B tc a d
def TT(k:Nat):Prop:=∀(B:Nat) (d:Int) (l:List St) (b:Bool) (v:C8) (w:C7),0<=d->d+k=101->fL l k=b->fQ B w->B<=w.heap.size->f6 B w v l->
 C3 80 #[v,(d:Int)] w (Cz b w)
theorem TT.call{k:Nat}(a:TT k)(B:Nat)(d:Int)(l:List St)(b:Bool)(v:C8)(w:C7)(c:0<=d)(g:d+k=101)(f:fL l k=b)(j:fQ B w)(e:B<=w.heap.size)(i:f6 B w v l):
 C3 80 #[v,(d:Int)] w (Cz b w):=a B d l b v w c g f j e i
theorem g0(k:Nat)(ah:∀c,c+1=k->TT c):TT k:=by
 intro B d l b v w _ ad Y ag a J;have aC:d<=101:=O
 have x:=U ad;clear ad;obtain⟨A,cap,rfl,_⟩:=J.form;have C:=U ag;have an:=U J;have q:=U Y;have R:=U ah;clear ag J Y ah;go_enter func80,ntmps80;go_wp2_with fail
 go_loopw [9] (fun iv wr=>∃j:Nat,j<=l.length/\iv=.int .i64 j/\fL (l.take j) k=true/\C2 w wr) (fun iv _=>l.length-(intOf iv).toNat)
 case atStart=>exact⟨0,D1 _,rfl,iW _,D5 _ _⟩
 case round=>
  obtain⟨j,_,rfl,X,f⟩:=hrel;have N:=U X;clear X;have s:=f.size;by_cases ax:j<l.length
  .obtain⟨⟨ai,ty,td,tc,tg,th⟩,I⟩:∃e,l[j]?=some e:=⟨_,D2 ax⟩
   have r:=U I;obtain⟨g,o,v,_,_,rfl,_,_,_,_,_,_,_,K,L,M⟩:=(an.o.below (f.mono a) Zr).cells I;obtain⟨_,_,rfl,_⟩:=K.form;obtain⟨_,_,rfl,_⟩:=L.form;obtain⟨_,_,rfl,_⟩:=M.form;have z:=U K;have ao:=U L;have ap:=U M;have aD:g<wr.heap.size:=O
   have aB:=f.mono a;have D:B<=wr.heap.size:=Dw a s;clear I K L M;rcases k with _|c
   .have av:decide ((100 :Int)<d)=true:=by have:=x.o;simp;omega
    have aq:Do (fL l 0=false):=zg r.o (by rw[jp];simp);go_wp2_with fail;go_ret;exact⟨zC (by rw[<-q.o,aq.o]),f.alloc s _⟩
   .have av:decide ((100 :Int)<d)=false:=by have:=x.o;simp;omega
    have ae:(d+1)+(c:Int)=101:=(by have:=x.o;omega);have af:0<=d+1:=O;have Q:=U ae;clear ae;obtain⟨S,E⟩:=C4 (zo ai ty td tc.length tg.length th.length (QP tc));obtain⟨T,F⟩:=C4 (zy tc 100);obtain⟨V,G⟩:=C4 (fL tg c);obtain⟨W,H⟩:=C4 (fL th c)
    have y:Do (uQ (.mk ai ty td tc tg th) (c+1)=(S&&T&&V&&W)):=by
     unfold Do;rw[jp,E,F,Yu,G,H];simp
    have P:=U E;have ak:=U F;have al:=U G;have am:=U H;clear E F G H;cases S
    .go_wp2_with (go_at_call 104;(with_reducible refine(nA _ _ _ _ _ _ _ _ _ _ _ _ B tc _ rfl P.o _ (z.o.below (Zb.alloc D _) Zr)).mono ?_);rintro e aj ⟨rfl,i⟩;obtain⟨au,aw⟩:=qW i)
     go_ret;exact⟨zC (by rw[<-q.o,zg r.o y.o]),(f.alloc s _).trans (i.mono Ut)⟩
    .cases T
     case' true=>cases V
     case' true.true=>cases W
     all_goals
      go_wp2_with (first
       |(go_at_call 104;(with_reducible refine(nA _ _ _ _ _ _ _ _ _ _ _ _ B tc _ rfl P.o _ (z.o.below (Zb.alloc D _) Zr)).mono ?_);rintro e aj ⟨rfl,i⟩;obtain⟨au,aw⟩:=qW i;have aE:wr.heap.size<aj.heap.size:=(by have:=i.size;simp at this;omega);have n:=(f.alloc s _).trans (i.mono Ut);have Z:=((D5 B _).alloc D _).trans (i.mono Ut))
       |(go_at_call 105;(with_reducible refine(tO B tc _ ak.o _ _ (C.o.below (n.mono a)) (Dw a n.size) (z.o.below Z Zr)).mono ?_);rintro e az ⟨rfl,t⟩;obtain⟨_,_⟩:=qW t;have aF:wr.heap.size<az.heap.size:=(by have:=t.size;omega);have m:=n.trans (t.mono n.size);have aa:=Z.trans (t.mono (Dw a n.size)))
       |(go_at_call 80;(with_reducible refine((R.o c rfl).call B _ tg _ _ _ af Q.o al.o (C.o.below (m.mono a)) (Dw a m.size) (ao.o.below aa Zr)).mono ?_);rintro e aA ⟨rfl,u⟩;obtain⟨_,_⟩:=qW u;have aG:wr.heap.size<aA.heap.size:=(by have:=u.size;omega);have p:=m.trans (u.mono m.size);have ar:=aa.trans (u.mono (Dw a m.size)))
       |(go_at_call 80;(with_reducible refine((R.o c rfl).call B _ th _ _ _ af Q.o am.o (C.o.below (p.mono a)) (Dw a p.size) (ap.o.below ar Zr)).mono ?_);rintro e _ ⟨rfl,ay⟩;have ab:=p.trans (ay.mono p.size)))
     all_goals first
      |(go_ret;exact⟨zC (by rw[<-q.o,zg r.o y.o]),by first|exact ab|exact p|exact m⟩)
      | (go_roundw
         case rel=>exact⟨j+1,O,by go_num,by rw[kU r.o,N.o,y.o];rfl,ab⟩
         case measure=>simp[intOf];omega)
  .go_wp2_with fail
   go_ret;refine⟨zC ?_,f⟩;rw[<-q.o,<-N.o,Ye O]
theorem iI:∀k,TT k
 |0=>g0 0 (fun _ b=>O)
 | k+1=>g0 (k+1) (fun a b=>by
    obtain rfl:a=k:=O
    exact iI a)
theorem tQ(B:Nat)(l:List St)(b:Bool)(c:fL l 100=b)(v:C8)(w:C7)(e:fQ B w)(a:B<=w.heap.size)(d:f6 B w v l):
 C3 80 #[v,(1:Int)] w (Cz b w):=iI 100 B 1 l b v w Us Us c e a d
theorem y3(a:Ar)(c:Bool)(i:yn a=c)(w:C7):C3 56 #[.agg #[a.name,(a.size:Int)]] w (Cz c w):=by
 subst i;obtain⟨b,f⟩:=C4 (us a.name);have d:=U f;clear f;cases b
 all_goals
  go_enter func56,ntmps56;go_wp2_with (go_at_call 78;(with_reducible refine(l8 a.name _ d.o _).mono ?_);rintro e _ ⟨rfl,g⟩;obtain⟨_,_⟩:=qW g)
  all_goals go_ret
  all_goals refine⟨zC ?_,(Zb.alloc Zr _).trans (g.mono Uu)⟩
  all_goals have j:=d.o
  all_goals go_light
  all_goals simp_all [yn]
 all_goals omega
theorem vJ{α:Type}(f:α->Bool){l:List α}{x:α}(h:l[i]?=some x):(l.take (i+1)).all f=((l.take i).all f&&f x):=by
 rw[Yt,h];simp
theorem yB{α:Type}(f:α->Bool){l:List α}{x:α}(b:l[i]?=some x)(a:f x=false):l.all f=false:=by
 rw[Cl];intro c;rw[List.all_eq_true.1 c x (Yc b)]at a;cases a
section
variable (B:Nat)(f:Fu)(A A2:Option Addr)(cap cap2:Nat)(w:C7)
theorem tR(b:(us f.name&&hH f.type&&decide (f.params.length<=8))=false)(m m2:Nat)(k:f.params.length=m):
 C3 57 #[.agg #[f.name,(f.type:Int),(A,m,cap),(A2,m2,cap2)]] w (Cz false w):=by
 obtain⟨n,a⟩:=C4 (us f.name);obtain⟨p,d⟩:=C4 (hH f.type);rw[a,d,k]at b;have c:=U a;have g:=U d;clear a d k;cases n
 .clear b
  go_enter func57,ntmps57;go_wp2_with (go_at_call 78;(with_reducible refine(l8 f.name _ c.o _).mono ?_);rintro e l ⟨rfl,a⟩;obtain⟨i,j⟩:=qW a);go_ret;exact⟨rfl,(Zb.alloc Zr _).trans (a.mono Uu)⟩
 .cases p
  .clear b
   go_enter func57,ntmps57
   go_wp2_with (first
    |(go_at_call 78;(with_reducible refine(l8 f.name _ c.o _).mono ?_);rintro e l ⟨rfl,a⟩;obtain⟨i,j⟩:=qW a)
    |(go_at_call 79;(with_reducible refine(xH f.type _ g.o _).mono ?_);rintro e q ⟨rfl,rfl⟩))
   go_ret;exact⟨rfl,(Zb.alloc Zr _).trans (a.mono Uu)⟩
  .have r:decide ((8 :Int)<(m:Int))=true:=by simp at b ⊢;omega
   clear b;go_enter func57,ntmps57
   go_wp2_with (first
    |(go_at_call 78;(with_reducible refine(l8 f.name _ c.o _).mono ?_);rintro e l ⟨rfl,a⟩;obtain⟨i,j⟩:=qW a)
    |(go_at_call 79;(with_reducible refine(xH f.type _ g.o _).mono ?_);rintro e q ⟨rfl,rfl⟩))
   all_goals first
    |(exfalso;omega)
    |(go_ret;exact⟨rfl,(Zb.alloc Zr _).trans (a.mono Uu)⟩)
theorem tT(N:fQ B w)(l:B<=w.heap.size)(L:gU B w (.slice A f.params.length cap) f.params)(M:f6 B w (.slice A2 f.body.length cap2) f.body)
 (D:(us f.name&&hH f.type&&decide (f.params.length<=8))=true) (c:Bool) (I:(f.params.all ut&&fL f.body 100)=c):
 C3 57 #[.agg #[f.name,(f.type:Int),(A,f.params.length,cap),(A2,f.body.length,cap2)]] w (Cz c w):=by
 simp only[D3,decide_eq_true_eq]at D;obtain⟨⟨E,F⟩,_⟩:=D;have Q:=U E;have R:=U F;have X:=U N;have V:=U L;have W:=U M;have u:=U I;clear E F N L M I;go_enter func57,ntmps57
 go_wp2_with (first
  |(go_at_call 78;(with_reducible refine(l8 f.name _ Q.o _).mono ?_);rintro e d ⟨rfl,m⟩;obtain⟨J,ab⟩:=qW m)
  |(go_at_call 79;(with_reducible refine(xH f.type _ R.o _).mono ?_);rintro e P ⟨rfl,rfl⟩))
 have ae:w.heap.size<d.heap.size:=by have:=m.size;simp at this;omega
 have ag:C2 w d:=(Zb.alloc Zr _).trans (m.mono Uu)
 have K:∀i,d.cell? ⟨w.heap.size,i,none⟩=(#[.string f.name,.int .i64 f.type,.slice A f.params.length cap,.slice A2 f.body.length cap2]:Array C8)[i]?:=fun i=>by
  rw[J _ _ Uu];exact Dv (Ds w _) i
 have S:=U K;have ah:d.cell? (w.heap.size,3)=some (.slice A2 f.body.length cap2):=by rw[S.o];rfl
 clear J ab K
 go_loopw [24] (fun iv wr=>∃j:Nat,j<=f.params.length/\iv=.int .i64 j/\(f.params.take j).all ut=true/\C2 d wr) (fun iv _=>f.params.length-(intOf iv).toNat)
 case atStart=>exact⟨0,D1 _,rfl,rfl,D5 _ _⟩
 case round=>
  obtain⟨j,_,rfl,G,k⟩:=hrel;have t:=U G;clear G;have af:=k.size;have a:C2 w wr:=ag.trans (k.mono O);have ak:wr.cell? (w.heap.size,3)=some (.slice A2 f.body.length cap2):=(k.cell (p:=(w.heap.size,3)) ae).trans ah;have aj:w.heap.size<wr.heap.size:=O
  have Z:B<=wr.heap.size:=O
  by_cases ad:j<f.params.length
  .obtain⟨x,r⟩:∃e,f.params[j]?=some e:=⟨_,D2 ad⟩
   obtain⟨g,o,rfl,_,_,_⟩:=(V.o.below (a.mono l) Zr).cells r;have y:=U r;have ai:g<wr.heap.size:=O
   obtain⟨z,n⟩:=C4 (us x.name);obtain⟨C,q⟩:=C4 (hH x.type);have v:Do (ut x=(z&&C)):=by unfold Do ut;rw[n,q]
   have T:=U n;have Y:=U q;clear r n q;cases z
   case' true=>cases C
   all_goals
    go_wp2_with (first
     |(go_at_call 78;(with_reducible refine(l8 x.name _ T.o _).mono ?_);rintro e P ⟨rfl,b⟩;obtain⟨_,_⟩:=qW b)
     |(go_at_call 79;(with_reducible refine(xH x.type _ Y.o _).mono ?_);rintro e _ ⟨rfl,rfl⟩))
   all_goals first
    |(go_ret;exact⟨zC (by rw[<-u.o,yB ut y.o v.o];rfl),(a.alloc O _).trans (b.mono Ut)⟩)
    | (go_roundw
       case rel=>exact⟨j+1,O,by go_num,by rw[vJ ut y.o,t.o,v.o];rfl,(k.alloc af _).trans (b.mono Ut)⟩
       case measure=>simp[intOf];omega)
  .have aa:Do (f.params.all ut=true):=by unfold Do;rw[<-t.o,Ye O]
   obtain⟨_,H⟩:=C4 (fL f.body 100);have s:=U H;clear H;go_wp2_with (go_at_call 80;(with_reducible refine(tQ B f.body _ s.o _ _ (X.o.below (a.mono l)) Z (W.o.below (a.mono l) Zr)).mono ?_);rintro e P ⟨rfl,b⟩);go_ret;exact⟨zC (by rw[<-u.o,aa.o,s.o];simp),a.trans (b.mono O)⟩
theorem DU(g:fQ B w)(b:B<=w.heap.size)(d:gU B w (.slice A f.params.length cap) f.params)(e:f6 B w (.slice A2 f.body.length cap2) f.body)(c:Bool)(a:yo f=c):
 C3 57 #[.agg #[f.name,(f.type:Int),(A,f.params.length,cap),(A2,f.body.length,cap2)]] w (Cz c w):=by
 cases h:(us f.name&&hH f.type&&decide (f.params.length<=8))with
 |false=>
   have:c=false:=by rw[<-a];unfold yo;rw[h];simp
   subst this;exact tR f A A2 cap cap2 w h _ _ rfl
 |true=>
   refine tT B f A A2 cap cap2 w g b d e h c ?_;rw[<-a];unfold yo;rw[h];simp
end
theorem ui(B:Nat)(p:Pr)(c:Bool)(H:f5 p=c)(v v':C8)(w:C7)(I:fQ B w)(q:B<=w.heap.size)(r:gN B w v p.wa)(u:gO B w v' p.funcs):
 C3 27 #[.agg #[v,v']] w (Cz c w):=by
 obtain⟨A,cap,rfl,_⟩:=r.form;obtain⟨A2,cap2,rfl,_⟩:=u.form;have R:=U I;have K:=U r;have M:=U u;have m:=U H;clear I r u H;go_enter func27,ntmps27;go_wp2_with fail
 go_loopw [10] (fun iv wr=>∃j:Nat,j<=p.wa.length/\iv=.int .i64 j/\(p.wa.take j).all yn=true/\Below (w.heap.size+1) (w.alloc (.cells #[(A,p.wa.length,cap),(A2,p.funcs.length,cap2)] 27)) wr) (fun iv _=>p.wa.length-(intOf iv).toNat)
 case atStart=>exact⟨0,D1 _,rfl,rfl,D5 _ _⟩
 case round=>
  obtain⟨j,_,rfl,F,i⟩:=hrel;have C:=U F;clear F;have X:w.heap.size+1<=wr.heap.size:=by have:=i.size;simpa using this
  have J:C2 w wr:=(Zb.alloc Zr _).trans (i.mono O);have ae:B<=wr.heap.size:=O
  by_cases V:j<p.wa.length
  .obtain⟨x,b⟩:∃e,p.wa[j]?=some e:=⟨_,D2 V⟩
   obtain⟨g,o,rfl,S,Z,aa⟩:=(K.o.below (J.mono q) Zr).cells b;have d:=U b;have T:g<wr.heap.size:=O
   obtain⟨n,f⟩:=C4 (yn x);have a:=U f;clear b f;cases n
   all_goals
    go_wp2_with (go_at_call 56;(with_reducible refine(y3 x _ a.o _).mono ?_);rintro e ab ⟨rfl,k⟩)
   .go_ret
    exact⟨zC (by rw[<-m.o];unfold f5;rw[yB yn d.o a.o];rfl),(J.alloc O _).trans (k.mono Ut)⟩
   .go_roundw
    case rel=>exact⟨j+1,O,by go_num,by rw[vJ yn d.o,C.o,a.o];rfl,(i.alloc X _).trans (k.mono Ut)⟩
    case measure=>simp[intOf];omega
  .have L:Do (p.wa.all yn=true):=by unfold Do;rw[<-C.o,Ye O]
   have ag:wr.cell? (w.heap.size,1)=some (.slice A2 p.funcs.length cap2):=(i.cell (p:=(w.heap.size,1)) Uu).trans Uu;have af:w.heap.size<wr.heap.size:=O
   go_wp2_with fail
   go_loopw [21] (fun iv ad=>∃j:Nat,j<=p.funcs.length/\iv=.int .i64 j/\(p.funcs.take j).all yo=true/\Below (w.heap.size+1) (w.alloc (.cells #[(A,p.wa.length,cap),(A2,p.funcs.length,cap2)] 27)) ad) (fun iv _=>p.funcs.length-(intOf iv).toNat)
   case atStart=>exact⟨0,D1 _,rfl,rfl,i⟩
   case round=>
    obtain⟨z,_,rfl,G,t⟩:=hrel;have D:=U G;clear G;have Y:w.heap.size+1<=wr.heap.size:=(by have:=t.size;simpa using this);have l:C2 w wr:=(Zb.alloc Zr _).trans (t.mono O);have E:B<=wr.heap.size:=O;by_cases W:z<p.funcs.length
    .obtain⟨x,b⟩:∃e,p.funcs[z]?=some e:=⟨_,D2 W⟩
     obtain⟨g,o,_,_,rfl,S,Z,aa,_,_,y,s⟩:=(M.o.below (l.mono q) Zr).cells b;obtain⟨A3,_,rfl,_⟩:=y.form;obtain⟨_,_,rfl,_⟩:=s.form;have d:=U b;have P:=U y;have Q:=U s;have T:g<wr.heap.size:=O;obtain⟨n,f⟩:=C4 (yo x);have a:=U f;clear b f y s;cases n
     all_goals
      go_wp2_with (go_at_call 57;(with_reducible refine(DU B x _ _ _ _ _ (R.o.below ((l.alloc O _).mono q)) Ut (P.o.below (Zb.alloc E _) Zr) (Q.o.below (Zb.alloc E _) Zr) _ a.o).mono ?_);rintro e ab ⟨rfl,k⟩)
     .go_ret
      exact⟨zC (by rw[<-m.o];unfold f5;rw[yB yo d.o a.o];simp),(l.alloc O _).trans (k.mono Ut)⟩
     .go_roundw
      case rel=>exact⟨z+1,O,by go_num,by rw[vJ yo d.o,D.o,a.o];rfl,(t.alloc Y _).trans (k.mono Ut)⟩
      case measure=>simp[intOf];omega
    .have N:Do (p.funcs.all yo=true):=by unfold Do;rw[<-D.o,Ye O]
     go_wp2_with fail;go_ret;exact⟨zC (by rw[<-m.o];unfold f5;rw[L.o,N.o];rfl),l⟩
abbrev lW(a b:Int):Obj:=.cells #[(a:Int),(b:Int)] 45
def LR(w:C7)(R:Int×Nat×Nat)(e:Ending)(w':C7):Prop:=
 e=.returned (.tuple #[(R.1:Int),.agg #[((R.2.1:Int):Int),(fX R.2.2:Int)]])/\C2 w w'
theorem tU{p:Pr}{f:Fu}{r:List Fu}:uW p (f::r) i=if(yq p f).1≠0 then((yq p f).1,i,(yq p f).2)else uW p r (i+1):=by rw[uW]
theorem OS(B:Nat)(p:Pr)(R:Int×Nat×Nat)(bt bu:C8)(w:C7)(bs:fQ B w)(c:B<=w.heap.size)(aW:gN B w bt p.wa)(a1:gO B w bu p.funcs)(br:LA p)(aJ:p.wa.length<=1000000)(aK:p.funcs.length<=1000000)(bk:vB p=R):
 C3 15 #[.agg #[bt,bu]] w (LR w R):=by
 obtain⟨ap,ay,rfl,_⟩:=aW.form;obtain⟨A1,c1,rfl,_⟩:=a1.form;have a4:C2 w ((w.alloc (qd ap p.wa.length ay A1 p.funcs.length c1)).alloc (lW 0 0)):=(Zb.alloc Zr _).alloc Uu _;have G:=U a4;have aG:=C5 (((w.alloc (qd ap p.wa.length ay A1 p.funcs.length c1)).alloc (lW 0 0)).heap[w.heap.size]?=some (qd ap p.wa.length ay A1 p.funcs.length c1)) ((D7 _ _ _ Uu).trans (Ds w _));have ax:=C5 (((w.alloc (qd ap p.wa.length ay A1 p.funcs.length c1)).alloc (lW 0 0)).heap[w.heap.size+1]?=some (lW 0 0)) (by simpa using Ds (w.alloc (qd ap p.wa.length ay A1 p.funcs.length c1)) (lW 0 0));have aw:=U (bs.below (a4.mono c));have n:=U aW;have m:=U a1;have av:=U bk;have aF:=U br;obtain⟨ok,bo⟩:=C4 (f5 p);have M:=U bo;clear aW a1 bk bs br a4 bo;cases ok
 case false=>
  go_enter func15,ntmps15
  go_wp2_with (go_at_call 27;(with_reducible refine(ui B p _ M.o _ _ _ aw.o Ut (n.o.below (G.o.mono c) Zr) (m.o.below (G.o.mono c) Zr)).mono ?_);rintro e l ⟨rfl,i⟩
               have a:=(i.block (w.heap.size+1) Uu).trans ax.o;obtain⟨⟨D,E⟩,F⟩:=zG a;have V:w.heap.size+1<l.heap.size:=zB a;have P:=U a;have N:=C5 (C2 w l) (G.o.trans (i.mono Ut))
               clear i a)
  obtain⟨K,f1⟩:=js P.o (.int .i64 0) (.int .i64 0);refine bodyPost_ret (v:=.tuple #[(1:Int),.agg #[(0:Int),(0:Int)]]) (by simp[results,results15,go_sem,K,f1]) rfl ?_;have C:=av.o;unfold vB at C;rw[Dq M.o]at C;subst C;exact⟨rfl,qx N.o O _ _⟩
 case true=>
  obtain⟨d,aZ⟩:=C4 ((uX p p.wa || CS p.funcs));obtain⟨st,a3⟩:=C4 (xh p);obtain⟨xl,aL⟩:=C4 (p.wa.map (·.name)++p.funcs.map (·.name));have aE:=U aL;have aD:=U (show nod xl= !d by rw[<-aL,FQ,aZ]);have bg:=U a3;have aC:=U (show vB p=if(d || !st)=true then(50,0,0)else uW p p.funcs 0 by unfold vB;rw[Dp (by rw[M.o];decide),aZ,a3])
  have aH:=U (show ∀s∈xl,s.size<=maxLen from fun s am=>by
   rw[<-aL]at am;rcases List.mem_append.1 am with am|am
   .obtain⟨x,a5,rfl⟩:=List.mem_map.1 am
    exact aF.o.1 x a5
   .obtain⟨x,a5,rfl⟩:=List.mem_map.1 am
    exact(aF.o.2 x a5).1)
  clear aZ a3 aL;have bA:d=true\/st=false\/(d=false/\st=true):=by cases d<;>cases st<;>simp
  rcases bA with rfl|rfl|⟨rfl,rfl⟩
  case inl=>
   exact Iw
  case inr.inl=>
   cases d
   case true=>
    exact Iw
   case false=>
    go_enter func15,ntmps15
    go_wp2_with (first
     | (go_at_call 27;(with_reducible refine(ui B p _ M.o _ _ _ aw.o Ut (n.o.below (G.o.mono c) Zr) (m.o.below (G.o.mono c) Zr)).mono ?_);rintro e l ⟨rfl,i⟩
        have b:=(i.block w.heap.size Ut).trans aG.o;have a:=(i.block (w.heap.size+1) Uu).trans ax.o;obtain⟨⟨H,I⟩,J⟩:=zG b;obtain⟨⟨D,E⟩,F⟩:=zG a;have V:w.heap.size+1<l.heap.size:=zB a;have ak:w.heap.size<l.heap.size:=zB b;have u:C2 w l:=G.o.trans (i.mono Ut);have Z:=U b;have P:=U a;have W:=U (n.o.below (u.mono c) Zr);have X:=U (m.o.below (u.mono c) Zr);have ag:B<=l.heap.size:=O;have N:=U u
        clear i b a u)
     | (go_at_call 29;(with_reducible refine(uA B p _ _ _ ag W.o X.o aJ aK).mono ?_);rintro e k ⟨a7,rfl,t,q⟩
        rw[aE.o]at t;obtain⟨aM,aT,rfl,_⟩:=t.form;have Y:=U t;have b:=(q.block w.heap.size ak).trans Z.o;have a:=(q.block (w.heap.size+1) V).trans P.o;obtain⟨⟨H,I⟩,J⟩:=zG b;obtain⟨⟨D,E⟩,F⟩:=zG a;have aj:w.heap.size+1<k.heap.size:=zB a;have al:w.heap.size<k.heap.size:=zB b;have y:C2 w k:=N.o.trans (q.mono O);have aa:=U b;have ae:=U a;have aN:=U (n.o.below (y.mono c) Zr);have aP:=U (m.o.below (y.mono c) Zr);have aV:B<=k.heap.size:=O;have ab:=U y
        clear q b a y t)
     | (go_at_call 28;(with_reducible refine(kb k.heap.size _ _ _ _ Zr Y.o aH.o aD.o).mono ?_);rintro e A ⟨rfl,r⟩
        have b:=(r.block w.heap.size al).trans aa.o;have a:=(r.block (w.heap.size+1) aj).trans ae.o;obtain⟨⟨H,I⟩,J⟩:=zG b;obtain⟨⟨D,E⟩,F⟩:=zG a;have aA:w.heap.size+1<A.heap.size:=zB a;have aB:w.heap.size<A.heap.size:=zB b;have z:C2 w A:=ab.o.trans (r.mono O);have au:=U b;have af:=U a;have aq:=U (n.o.below (z.mono c) Zr);have ar:=U (m.o.below (z.mono c) Zr);have az:B<=A.heap.size:=O;have ad:=U z
        clear r b a z)
     | (go_at_call 30;(with_reducible refine(lG B p _ _ _ _ az aq.o ar.o bg.o).mono ?_);rintro e L ⟨rfl,Q⟩
        have b:=(Q.block w.heap.size aB).trans au.o;have a:=(Q.block (w.heap.size+1) aA).trans af.o;obtain⟨⟨H,I⟩,J⟩:=zG b;obtain⟨⟨D,E⟩,F⟩:=zG a;have bp:w.heap.size+1<L.heap.size:=zB a;have bG:w.heap.size<L.heap.size:=zB b;have S:C2 w L:=ad.o.trans (Q.mono O);have be:=U b;have aR:=U a;have bv:=U (n.o.below (S.mono c) Zr);have bx:=U (m.o.below (S.mono c) Zr);have bz:B<=L.heap.size:=O;have aQ:=U S
        clear Q b a S))
    obtain⟨K,f1⟩:=js aR.o (.int .i64 0) (.int .i64 0);refine bodyPost_ret (v:=.tuple #[(50:Int),.agg #[(0:Int),(0:Int)]]) (by simp[results,results15,go_sem,K,f1]) rfl ?_;have C:=aC.o;rw[av.o,Bool.false_or,Bool.not_false,Dq rfl]at C;subst C;exact⟨rfl,qx aQ.o O _ _⟩
  case inr.inr=>
   go_enter func15,ntmps15
   go_wp2_with (first
    | (go_at_call 27;(with_reducible refine(ui B p _ M.o _ _ _ aw.o Ut (n.o.below (G.o.mono c) Zr) (m.o.below (G.o.mono c) Zr)).mono ?_);rintro e l ⟨rfl,i⟩
       have b:=(i.block w.heap.size Ut).trans aG.o;have a:=(i.block (w.heap.size+1) Uu).trans ax.o;obtain⟨⟨H,I⟩,J⟩:=zG b;obtain⟨⟨D,E⟩,F⟩:=zG a;have V:w.heap.size+1<l.heap.size:=zB a;have ak:w.heap.size<l.heap.size:=zB b;have u:C2 w l:=G.o.trans (i.mono Ut);have Z:=U b;have P:=U a;have W:=U (n.o.below (u.mono c) Zr);have X:=U (m.o.below (u.mono c) Zr);have ag:B<=l.heap.size:=O;have N:=U u
       clear i b a u)
    | (go_at_call 29;(with_reducible refine(uA B p _ _ _ ag W.o X.o aJ aK).mono ?_);rintro e k ⟨a7,rfl,t,q⟩
       rw[aE.o]at t;obtain⟨aM,aT,rfl,_⟩:=t.form;have Y:=U t;have b:=(q.block w.heap.size ak).trans Z.o;have a:=(q.block (w.heap.size+1) V).trans P.o;obtain⟨⟨H,I⟩,J⟩:=zG b;obtain⟨⟨D,E⟩,F⟩:=zG a;have aj:w.heap.size+1<k.heap.size:=zB a;have al:w.heap.size<k.heap.size:=zB b;have y:C2 w k:=N.o.trans (q.mono O);have aa:=U b;have ae:=U a;have aN:=U (n.o.below (y.mono c) Zr);have aP:=U (m.o.below (y.mono c) Zr);have aV:B<=k.heap.size:=O;have ab:=U y
       clear q b a y t)
    | (go_at_call 28;(with_reducible refine(kb k.heap.size _ _ _ _ Zr Y.o aH.o aD.o).mono ?_);rintro e A ⟨rfl,r⟩
       have b:=(r.block w.heap.size al).trans aa.o;have a:=(r.block (w.heap.size+1) aj).trans ae.o;obtain⟨⟨H,I⟩,J⟩:=zG b;obtain⟨⟨D,E⟩,F⟩:=zG a;have aA:w.heap.size+1<A.heap.size:=zB a;have aB:w.heap.size<A.heap.size:=zB b;have z:C2 w A:=ab.o.trans (r.mono O);have au:=U b;have af:=U a;have aq:=U (n.o.below (z.mono c) Zr);have ar:=U (m.o.below (z.mono c) Zr);have az:B<=A.heap.size:=O;have ad:=U z
       clear r b a z)
    | (go_at_call 30;(with_reducible refine(lG B p _ _ _ _ az aq.o ar.o bg.o).mono ?_);rintro e L ⟨rfl,Q⟩
       have b:=(Q.block w.heap.size aB).trans au.o;have a:=(Q.block (w.heap.size+1) aA).trans af.o;obtain⟨⟨H,I⟩,J⟩:=zG b;obtain⟨⟨D,E⟩,F⟩:=zG a;have bp:w.heap.size+1<L.heap.size:=zB a;have bG:w.heap.size<L.heap.size:=zB b;have S:C2 w L:=ad.o.trans (Q.mono O);have be:=U b;have aR:=U a;have bv:=U (n.o.below (S.mono c) Zr);have bx:=U (m.o.below (S.mono c) Zr);have bz:B<=L.heap.size:=O;have aQ:=U S
       clear Q b a S))
   go_loopw [25] (fun iv wr=>∃j:Nat,j<=p.funcs.length/\iv=.int .i64 j/\uW p (p.funcs.drop j) j=R/\C2 L wr) (fun iv _=>p.funcs.length-(intOf iv).toNat)
   case atStart=>exact⟨0,D1 _,rfl,by have:=aC.o;rw[av.o]at this;exact this.symm,D5 _ _⟩
   case round=>
    obtain⟨j,_,rfl,bl,ai⟩:=hrel;have bm:=U bl;have bw:=U ai;have bF:=ai.size;have ao:C2 w wr:=aQ.o.trans (ai.mono O);have bi:=U ao;have a6:=(ai.block (w.heap.size+1) bp).trans aR.o;obtain⟨⟨D,E⟩,F⟩:=zG a6;obtain⟨⟨H,I⟩,J⟩:=zG ((ai.block w.heap.size O).trans be.o);have aS:=U a6;have bq:w.heap.size+1<wr.heap.size:=O;have bI:w.heap.size<wr.heap.size:=O;clear bl a6;by_cases bC:j<p.funcs.length
    .obtain⟨f,aI⟩:∃e,p.funcs[j]?=some e:=⟨_,D2 bC⟩
     obtain⟨g,o,_,_,rfl,_,_,_,_,_,a2,aX⟩:=(m.o.below (ao.mono c) Zr).cells aI;obtain⟨A2,c2,rfl,_⟩:=a2.form;obtain⟨A3,c3,rfl,_⟩:=aX.form;have bH:g<wr.heap.size:=O;have an:C2 wr (wr.alloc (FR f.name f.type (.slice A2 f.params.length c2) (.slice A3 f.body.length c3))):=Zb.alloc Zr _;have bf:=U (a2.below (an.mono O) Zr);have a9:=U (aX.below (an.mono O) Zr);have a8:=U (n.o.below ((ao.trans (an.mono O)).mono c) Zr);have bc:=U (m.o.below ((ao.trans (an.mono O)).mono c) Zr);have bh:=U an;have bd:=U (Yc aI);obtain⟨⟨aU,n1⟩,aY⟩:=C4 (yq p f);have ba:=U aY;have a0:=bm.o;rw[xD aI,tU,aY]at a0;have bb:=U a0;clear a2 aX an aI aY a0 ai ao;by_cases bn:aU=0
     .subst bn
      go_wp2_with (go_at_call 31;(with_reducible refine(mP B p f M.o aF.o bd.o _ _ _ _ _ Ut a8.o bc.o bf.o a9.o _ ba.o).mono ?_);rintro e w8 ⟨rfl,ah⟩
                   have T:=(ah.block (w.heap.size+1) Ut).trans ((D7 wr _ _ bq).trans aS.o);obtain⟨⟨D,E⟩,F⟩:=zG T;have bD:w.heap.size+1<w8.heap.size:=zB T;have bj:=U T;have aO:=U ah
                   clear ah T)
      go_roundw
      case rel=>exact⟨j+1,O,by go_num,by have:=bb.o;rw[Dp (show ¬(0 :Int)≠0 by decide)]at this;exact this,bw.o.trans ((bh.o.trans (aO.o.mono Uu)).mono bF)⟩
      case measure=>simp[intOf];omega
     .go_wp2_with (go_at_call 31;(with_reducible refine(mP B p f M.o aF.o bd.o _ _ _ _ _ Ut a8.o bc.o bf.o a9.o _ ba.o).mono ?_);rintro e w8 ⟨rfl,ah⟩
                   have T:=(ah.block (w.heap.size+1) Ut).trans ((D7 wr _ _ bq).trans aS.o);obtain⟨⟨D,E⟩,F⟩:=zG T;have bD:w.heap.size+1<w8.heap.size:=zB T;have bj:=U T;have aO:=U ah
                   clear ah T)
      obtain⟨K,f1⟩:=js bj.o (.int .i64 (j:Int)) (.int .i64 (fX n1));refine bodyPost_ret (v:=.tuple #[(aU:Int),.agg #[((j:Int):Int),(fX n1:Int)]]) (by simp[results,results15,go_sem,K,f1]) rfl ?_;have C:=bb.o;rw[Dq (show aU≠0 from bn)]at C;subst C;exact⟨rfl,qx (bi.o.trans ((bh.o.trans (aO.o.mono Uu)).mono O)) O _ _⟩
    .clear ai ao
     go_wp2_with fail;obtain⟨K,f1⟩:=js aS.o (.int .i64 0) (.int .i64 0);refine bodyPost_ret (v:=.tuple #[(0:Int),.agg #[(0:Int),(0:Int)]]) (by simp[results,results15,go_sem,K,f1]) rfl ?_;have C:=bm.o;rw[List.drop_of_length_le O,uW]at C;subst C;exact⟨rfl,qx bi.o O _ _⟩
theorem nB(s:C6):s.toList=[]↔s.size=0:=by
 rw[Ym,Yf];exact List.length_eq_zero_iff.symm
theorem OT(op:Int)(w:C7):C3 99 #[(op:Int)] w (C0 (decide (20<=op/\op<=28)) w):=by
 go_enter func99,ntmps99;go_wp2_with fail
 all_goals go_ret
 all_goals refine⟨zC ?_,rfl⟩
 all_goals go_light
 all_goals(rw[Yk];simp;try omega)
def RxC(m:Nat):Prop:=∀(B:Nat) (z:Int) (k op n:Int) (td:C6) (tc:List Ex) (A:Option Addr) (cap:Nat) (c:Bool) (w:C7),z=(m:Int)->1<=m->m<=1000->yE (.mk k op n td tc) m=c->B<=w.heap.size->kW B w (.slice A tc.length cap) tc->
 C3 77 #[.agg #[(k:Int),(op:Int),(n:Int),td,(A,tc.length,cap)],(z:Int)] w (Cz c w)
theorem RxC.call(a:RxC m)(B:Nat)(z:Int)(k op n:Int)(td:C6)(tc:List Ex)(A:Option Addr)(cap:Nat)(c:Bool)(w:C7)(i:z=(m:Int))(b:1<=m)(d:m<=1000)(f:yE (.mk k op n td tc) m=c)(e:B<=w.heap.size)(g:kW B w (.slice A tc.length cap) tc):
 C3 77 #[.agg #[(k:Int),(op:Int),(n:Int),td,(A,tc.length,cap)],(z:Int)] w (Cz c w):=a B z k op n td tc A cap c w i b d f e g
theorem tV(m:Nat)(ak:∀m',m'+1=m->RxC m'):RxC m:=by
 intro B z k op n td tc A cap c w aj ae ar ad an Q;have T:=U Q;have L:=U ak;have s:=U ad;have x:=U aj;have au:tc.length<=281474976710656:=by obtain⟨_,_,_,C⟩:=Q.form;exact C
 have aw:1<=z:=O
 have ax:z<=1000:=O
 clear Q ak ad aj;go_enter func77,ntmps77;go_wp2_with fail
 go_loopw [5] (fun iv wr=>∃i:Nat,i<=tc.length/\iv=.int .i64 i/\zy (tc.take i) (m-1)=true/\Below (w.heap.size+1) (w.alloc (.cells #[(k:Int),(op:Int),(n:Int),td,(A,tc.length,cap)] 152)) wr) (fun iv _=>tc.length-(intOf iv).toNat)
 case atStart=>exact⟨0,D1 _,rfl,uR _,D5 _ _⟩
 case round=>
  obtain⟨i,_,rfl,aa,j⟩:=hrel;have I:=U aa;clear aa;have av:w.heap.size+1<=wr.heap.size:=by have:=j.size;simpa using this
  have a:C2 w wr:=(Zb.alloc Zr _).trans (j.mono O);have Z:B<=wr.heap.size:=O
  have aG:w.heap.size<wr.heap.size:=O
  have p:wr.heap[w.heap.size]?=some (.cells #[(k:Int),(op:Int),(n:Int),td,(A,tc.length,cap)] 152 (0,0)):=(j.block _ O).trans (Ds w _);have E:wr.cell? (w.heap.size,0)=some (.int .i64 k):=Kh
  have F:wr.cell? (w.heap.size,1)=some (.int .i64 op):=Kh
  have G:wr.cell? (w.heap.size,2)=some (.int .i64 n):=Kh
  have H:wr.cell? (w.heap.size,3)=some (.string td):=Kh
  have q:wr.cell? (w.heap.size,4)=some (.slice A tc.length cap):=Kh
  clear p;by_cases N:i<tc.length
  .obtain⟨⟨ay,aD,aA,aB,am⟩,M⟩:∃e,tc[i]?=some e:=⟨_,D2 N⟩
   obtain⟨g,o,v,rfl,_,_,_,_,_,q4,R⟩:=(T.o.below (a.mono an) Zr).cells M;obtain⟨_,_,rfl,_⟩:=R.form;have J:=U M;have V:=U R;have aF:g<wr.heap.size:=O
   clear M R;by_cases P:m=1
   .have ao:z<2:=by have:=x.o;omega
    have K:Do (c=false):=by
     unfold Do;rw[<-s.o,kD,vE J.o (by rw[P,kD];simp)];simp
    clear P;go_wp2_with fail;go_ret;exact⟨zC K.o.symm,a⟩
   .have ao:¬z<2:=by have:=x.o;omega
    obtain⟨m',rfl⟩:∃m',m=m'+1:=⟨m-1,O⟩
    have W:Do (z-1=(m':Int)):=(by have:=x.o;unfold Do;omega);have af:1<=m':=O;have ag:m'<=1000:=O;obtain⟨b,ab⟩:=C4 (yE (.mk ay aD aA aB am) m');have r:=U ab;clear ab P;cases b
    .have K:Do (c=false):=by
      unfold Do;rw[<-s.o,kD,Yu,vE J.o r.o];simp
     go_wp2_with (go_at_call 77;(with_reducible refine((L.o m' rfl).call B _ _ _ _ _ _ _ _ _ _ W.o af ag r.o Z V.o).mono ?_);rintro e l ⟨rfl,S⟩);go_ret;exact⟨zC K.o.symm,a.trans (S.mono O)⟩
    .go_wp2_with (go_at_call 77;(with_reducible refine((L.o m' rfl).call B _ _ _ _ _ _ _ _ _ _ W.o af ag r.o Z V.o).mono ?_);rintro e l ⟨rfl,S⟩)
     go_roundw
     case rel=>exact⟨i+1,O,by go_num,by rw[lL J.o,I.o,Yu,r.o];rfl,j.trans (S.mono av)⟩
     case measure=>simp[intOf];omega
  .have d:Do (c=zm k op n td tc.length):=by
    have y:zy tc (m-1)=true:=(by rw[<-I.o,Ye O]);unfold Do;rw[<-s.o,kD,y];have:decide (1<=m)=true:=(by simpa using ae);rw[this];simp
   obtain⟨aC,ah⟩:=C4 (us td);obtain⟨al,ai⟩:∃al,decide (20<=op/\op<=28)=al:=⟨_,rfl⟩
   obtain⟨az,D⟩:=C4 tc.length;have f:=U ah;have u:=U ai;rw[D]at au q d N;have aq:i=az:=O
   subst aq;have t:=U D;rw[D];clear ah ai D N ae ar T L s I x aw ax;by_cases y:k=1\/k=2\/k=8
   .rcases y with rfl|rfl|rfl
    all_goals
     go_wp2_with (go_at_call 44;(with_reducible refine(qk td _ f.o _).mono ?_);rintro e l ⟨rfl,rfl⟩)
     all_goals go_ret
     all_goals refine⟨zC ?_,a⟩
     all_goals rw[d.o]
     all_goals clear j a E F G H q d u f t
     all_goals go_light
     all_goals simp_all [zm,eB,nB]
     all_goals first|omega|(rw[Yk];simp;omega)|(rw[Yk];simp;done)
   by_cases C:k=3\/k=6\/k=7
   .rcases C with rfl|rfl|rfl
    all_goals cases aC
    all_goals
     go_wp2_with (go_at_call 44;(with_reducible refine(qk td _ f.o _).mono ?_);rintro e l ⟨rfl,rfl⟩)
     all_goals go_ret
     all_goals refine⟨zC ?_,a⟩
     all_goals rw[d.o]
     all_goals have aE:=f.o
     all_goals clear j a E F G H q d u f t
     all_goals go_light
     all_goals simp_all [zm]
     all_goals first|omega|(rw[Yk];simp;omega)|(rw[Yk];simp;done)
   by_cases X:k=4
   .subst X
    all_goals
     go_wp2_with (first
      |(go_at_call 44;(with_reducible refine(qk td _ f.o _).mono ?_);rintro e l ⟨rfl,rfl⟩)
      |(go_at_call 99;(with_reducible refine(OT _ _).mono ?_);rintro e l ⟨rfl,rfl⟩))
     all_goals go_ret
     all_goals refine⟨zC ?_,a⟩
     all_goals rw[d.o]
     all_goals clear j a E F G H q d u f t
     all_goals go_light
     all_goals simp_all [zm,eB,nB]
     all_goals first|omega|(rw[Yk];simp;omega)|(rw[Yk];simp;done)
   by_cases Y:k=5
   .subst Y
    go_wp2_with (first
     |(go_at_call 44;(with_reducible refine(qk td _ f.o _).mono ?_);rintro e l ⟨rfl,rfl⟩)
     |(go_at_call 100;(with_reducible refine(rX _ _).mono ?_);rintro e l ⟨rfl,rfl⟩))
    all_goals go_ret
    all_goals refine⟨zC ?_,a⟩
    all_goals rw[d.o]
    all_goals clear j a E F G H q d u f t
    all_goals go_light
    all_goals simp_all [zm,eB,nB]
    all_goals first|omega|(rw[Yk];simp;omega)|(rw[Yk];simp;done)
   .have n1:(k == 1)=false:=by simp;omega
    have n2:(k == 2)=false:=Ut;have aH:(k == 3)=false:=Ut;have aI:(k == 4)=false:=Ut;have aJ:(k == 5)=false:=Ut;have aK:(k == 6)=false:=Ut;have aL:(k == 7)=false:=Ut;have aM:(k == 8)=false:=Ut
    have ap:Do (c=false):=by
     unfold Do;rw[d.o];unfold zm;exact Ix
    clear y C X Y;go_wp2_with (go_at_call 44;(with_reducible refine(qk td _ f.o _).mono ?_);rintro e l ⟨rfl,rfl⟩)
    all_goals go_ret
    all_goals exact⟨zC ap.o.symm,a⟩
theorem BQ:∀m,RxC m
 |0=>tV 0 (fun _ h=>O)
 | m+1=>tV (m+1) (fun m' h=>by
    obtain rfl:m'=m:=O
    exact BQ m')
theorem JP{k ty:Int}{td:C6}{m2 m3:Nat}{c:Bool}(a:zo k ty td m m2 m3 c=true):k=1\/k=2\/k=3\/k=4\/k=5\/k=6\/k=7\/k=8\/k=9\/k=10:=by
 by_cases b:k=1\/k=2\/k=3\/k=4\/k=5\/k=6\/k=7\/k=8\/k=9\/k=10
 .exact b
 .exfalso
  unfold zo at a;rw[Dp O,Dp O,Dp O,Dp O,Dp O,Dp O,Dp O,Dp O]at a;cases a
def WK(k:Int):Bool:=decide (k=1)
def WL(k:Int):Bool:=decide (k=1\/k=2\/k=3)
def WM(k:Int):Int:=if k=3 then 2 else if k=6\/k=7 then 0 else if 1<=k/\k<=10 then 1 else -1
def shB(k:Int):Bool:=decide (k=4\/k=5)
def shE(k:Int):Bool:=decide (k=4)
theorem OU(k:Int)(w:C7):C3 76 #[(k:Int)] w (C0 (.tuple #[.bool (WK k),.bool (WL k),(WM k:Int),.bool (shB k),.bool (shE k)]) w):=by
 by_cases a:1<=k/\k<=10
 .obtain rfl|rfl|rfl|rfl|rfl|rfl|rfl|rfl|rfl|rfl:k=1\/k=2\/k=3\/k=4\/k=5\/k=6\/k=7\/k=8\/k=9\/k=10:=by omega
  all_goals
   clear a;go_enter func76,ntmps76;go_wp2_with fail;exact bodyPost_ret (v:=.tuple #[.bool (WK _),.bool (WL _),.int .i64 (WM _),.bool (shB _),.bool (shE _)]) (by simp[results,results76,go_sem];decide) rfl ⟨rfl,rfl⟩
 .have n1:(k == 1)=false:=by simp;omega
  have n2:(k == 2)=false:=Ut
  have j:(k == 3)=false:=Ut
  have l:(k == 4)=false:=Ut
  have m:(k == 5)=false:=Ut
  have n:(k == 6)=false:=Ut
  have p:(k == 7)=false:=Ut
  have q:(k == 8)=false:=Ut
  have r:(k == 9)=false:=Ut
  have i:(k == 10)=false:=Ut
  have g:Do (WK k=false/\WL k=false/\WM k= -1/\shB k=false/\shE k=false):=by
   unfold Do WK WL WM shB shE;refine⟨Ut,Ut,?_,Ut,Ut⟩;rw[Dp O,Dp O,Dp a]
  clear a;go_enter func76,ntmps76;go_wp2_with fail;obtain⟨b,c,d,e,f⟩:=g.o;rw[b,c,d,e,f];exact bodyPost_ret (v:=.tuple #[.bool false,.bool false,(-1:Int),.bool false,.bool false]) (by simp[results,results76,go_sem]) rfl ⟨rfl,rfl⟩
def RsC(m:Nat):Prop:=∀(B:Nat) (z:Int) (l:List St) (c:Bool) (v:C8) (w:C7),z=(m:Int)->m<=1000->fL l m=c->B<=w.heap.size->f6 B w v l->
 C3 55 #[v,(z:Int)] w (Cz c w)
theorem RsC.call(a:RsC m)(B:Nat)(z:Int)(l:List St)(c:Bool)(v:C8)(w:C7)(g:z=(m:Int))(e:m<=1000)(d:fL l m=c)(b:B<=w.heap.size)(f:f6 B w v l):
 C3 55 #[v,(z:Int)] w (Cz c w):=a B z l c v w g e d b f
def f1(k ty:Int)(td:C6)(a:Nat):Bool:=decide ((a:Int)=WM k)&&(WK k == hH ty)&&(WK k || decide (ty=0))&&(WL k == us td)&&(WL k || eB td)
def f3(k:Int)(a b:Nat)(c:Bool):Bool:=(shB k || decide (a=0))&&(shE k || decide (b=0))&&(!(decide (k=10)) || c)
theorem TU{s:C6}(a:eB s=true):us s=false:=by
 have b:s.size=0:=by simpa[eB]using a
 have:s.data.toList=[]:=Yq b;unfold us;rw[this];rfl
theorem GW(k ty:Int)(td:C6)(a b c:Nat)(e:Bool):zo k ty td a b c e=(f1 k ty td a&&f3 k b c e):=by
 by_cases d:1<=k/\k<=10
 .have j:eB td=true->us td=false:=TU
  have l:ty=0->hH ty=false:=fun d=>by rw[d];rfl
  obtain rfl|rfl|rfl|rfl|rfl|rfl|rfl|rfl|rfl|rfl:k=1\/k=2\/k=3\/k=4\/k=5\/k=6\/k=7\/k=8\/k=9\/k=10:=O
  all_goals
   clear d;rw[Yk];simp[zo,f1,f3,WM,WK,WL,shB,shE]
   first
    |(constructor<;>intro i<;>simp_all)
    |(intro _;constructor<;>intro i<;>simp_all)
  all_goals omega
 .have f:zo k ty td a b c e=false:=by
   cases hf:zo k ty td a b c e with
   |false=>rfl
   |true=>exact absurd (JP hf) O
  have g:f1 k ty td a=false:=by
   unfold f1 WM;rw[Dp O,Dp O,Dp d];have:decide ((a:Int)= -1)=false:=Uu
   rw[this];rfl
  rw[f,g];rfl
theorem TV(k:Int)(e d a b:Bool)(c:Int)(f:WK k=e)(g:WL k=d)(i:WM k=c)(j:shB k=a)(l:shE k=b)(w:C7):
 C3 76 #[(k:Int)] w (C0 (.tuple #[.bool e,.bool d,(c:Int),.bool a,.bool b]) w):=by
 subst f g i j l;exact OU k w
