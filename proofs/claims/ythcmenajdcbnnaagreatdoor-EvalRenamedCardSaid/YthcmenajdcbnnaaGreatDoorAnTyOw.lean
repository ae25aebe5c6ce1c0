import Derived.Test.YthcmenajdcbnnaaGreatDoorAnEvSim
set_option linter.unusedSimpArgs false
set_option linter.unusedVariables false
set_option maxRecDepth 100000
set_option maxHeartbeats 99000000
namespace Go.Proofs.YthcmenajdcbnnaaGreatDoor
open Go.RowKit Tryz
theorem In{p:Prop}(h:p:=by
 have E:=U a;have S:=U hE;have z:=U (hE.below (a.mono hE.hB));have T:=U (hE.below (a.drew.mono hE.hB));have y:=U ((a.block b s).trans hb);have R:=U ((a.drew.block b s).trans hb);have F:=U (k.below (a.mono hE.hB) Zr);have V:=U (k.below (a.drew.mono hE.hB) Zr);have C:=U hp;obtain⟨⟨_,_,_,_,_,_,_⟩,_⟩:=zS hb;clear hE hb hl hok hp u a c t l k;go_enter func100,ntmps100;go_wp2_with (go_at_call 119;(with_reducible refine(xM B b p tf _ _ _ _ _ _ _ _ _ fs ft n _ z.o y.o F.o A.o C.o D.o).mono ?_);rintro e _ ⟨rfl,J⟩);go_ret
 exact⟨rfl,E.o.trans (J.mono Ut)⟩):p:=h
theorem Io{p:Prop}(h:p:=by
 have i:=U a;have m:=U hE;have n:=U (hE.below (a.mono hE.hB));have q:=U (hE.below (a.drew.mono hE.hB));have k:=U ((a.block b d).trans hb);have l:=U ((a.drew.block b d).trans hb);have s:=U hp;obtain⟨⟨_,_,_,_,_,_,_⟩,_⟩:=zS hb;clear hE hb hl hok hp e a;go_enter func100,ntmps100;cases ti
 all_goals
  go_wp2_with fail;go_ret
  exact⟨qK (by rw[<-g.o];rfl),i.o⟩):p:=h
variable{B b:Nat}{w:C3}{p:Pr}{v0 v1 v:C4}
theorem GA{α:Type}{b:Nat}{F:α->Nat->Nat->Prop}:∀(k:Nat) (l:List α) (g o:Nat),uI b F l g o->uI b F (l.drop k) g (o+k*b)
 |0,l,g,o,h=>Vj
 |k+1,[],g,o,h=>trivial
 | k+1,a::r,g,o,h=>by
   have:=GA k r g (o+b) h.2;rw[List.drop_succ_cons,show o+(k+1)*b=o+b+k*b by rw[Nat.add_mul,Nat.one_mul];omega];exact this
theorem GB(g o k:Nat):(⟨g,o,none⟩:Addr).add k=⟨g,o+k,none⟩:=Jh
theorem e5.dropS{a:Option Addr}{c:Nat}{l:List Pa}(b:e5 B w (.slice a l.length c) l)(k:Nat)(_:k<=l.length):e5 B w (.slice (if c=k then a else Option.map (fun x=>x.add (k*2)) a) (l.length-k) (c-k)) (l.drop k):=by
 have f:=b.2 a l.length c rfl;refine⟨⟨_,c-k,by rw[Yq],?_,fun hp=>?_⟩,fun _ _ c' e=>Kq⟩
 .obtain⟨_,_,_,_⟩:=b.form
  rw[Yq];omega
 .rw[Yq]at hp
  obtain⟨g,o,rfl,d⟩:=vR.elem b.1 rfl O;refine⟨g,o+k*2,?_,GA k l g o d⟩;rw[Dl O,Option.map_some,GB]
theorem GC{α:Type}{b:Nat}{F:α->Nat->Nat->Prop}:∀(k:Nat) (l:List α) (g o:Nat),uI b F l g o->uI b F (l.take k) g o
 |0,l,g,o,h=>trivial
 |k+1,[],g,o,h=>trivial
 |k+1,a::r,g,o,h=>⟨h.1,GC k r g (o+b) h.2⟩
set_option linter.unusedSectionVars false
section
variable (B b:Nat)(p:Pr)(tf:List Pa)(ty:Int)(td:C2)(tc:List Ex)(frm:Nat)(ti:Bool)(A4:Option Addr)(n4 c4:Nat)(A5:Option Addr)(n5 c5:Nat)(r:Int)(v3 v0 v1 v v2 vb:C4)(fs:C2)(ft n:Int)(w:C3)
variable (hE:gG B p tf v0 v1 v w)(hb:w.heap[b]?=some (lD v0 v1 fs ft v2 vb n))(hl:xA B w v3 tc)(hok:zr tc 100=true)(hp:l7 p)(hfr:frm<=tf.length)
include hE hb hl hok hp hfr in
theorem ZA(H:tc.length=1)(u:qy p ft 4 ty td tc tf frm ti=r):Cy 100 #[(b,0),nW 4 ty td v3 (.slice A4 n4 c4) (.slice A5 n5 c5),v,((frm:Int):Int),.bool ti] w (Cv (r:Int) w):=by
 have X:0<tc.length:=O
 obtain⟨⟨f,i,g,j,d⟩,c⟩:∃e,tc[0]?=some e:=⟨_,Dz O⟩
 have t:tc.getD 0 jj=.mk f i g j d:=by
  rw[Yk,c];rfl
 have A:=U (jK hok c);have D:=U (show qu p tf (.mk f i g j d) 2=r by rw[<-u,qy];rw[Dl Up,Dl Up,Dl Up,Dm Up,t]);clear H;obtain⟨_,_,_,_,_,_,rfl,rfl,rfl⟩:=hE.form;obtain⟨_,G,rfl,_⟩:=hl.form;obtain⟨q,m,_,I,_,L,M,N,P,Q,l⟩:=hl.cells c;subst I;rw[show m+0*5=m by omega]at L M N P Q;obtain⟨x,K,rfl,_⟩:=l.form;have k:iY B w (.mk f i g j d) (.agg #[(f:Int),(i:Int),(g:Int),j,(x,d.length,K)]):=⟨_,rfl,hl.range c,l⟩
 have W:q<w.heap.size:=Xq
 have s:=zB hb;have a:Cx w (w.alloc (qj 4 ty td (.slice (some ⟨q,m,none⟩) tc.length G) (.slice A4 n4 c4) (.slice A5 n5 c5))):=Zb.alloc Zr _;exact In
include hE hb hl hok hp hfr in
theorem JN(H:tc.length=1)(u:qy p ft 5 ty td tc tf frm ti=r):Cy 100 #[(b,0),nW 5 ty td v3 (.slice A4 n4 c4) (.slice A5 n5 c5),v,((frm:Int):Int),.bool ti] w (Cv (r:Int) w):=by
 have X:0<tc.length:=O
 obtain⟨⟨f,i,g,j,d⟩,c⟩:∃e,tc[0]?=some e:=⟨_,Dz O⟩
 have t:tc.getD 0 jj=.mk f i g j d:=by
  rw[Yk,c];rfl
 have A:=U (jK hok c);have D:=U (show qu p tf (.mk f i g j d) 2=r by rw[<-u,qy];rw[Dl Up,Dl Up,Dl Up,Dm Up,t]);clear H;obtain⟨_,_,_,_,_,_,rfl,rfl,rfl⟩:=hE.form;obtain⟨_,G,rfl,_⟩:=hl.form;obtain⟨q,m,_,I,_,L,M,N,P,Q,l⟩:=hl.cells c;subst I;rw[show m+0*5=m by omega]at L M N P Q;obtain⟨x,K,rfl,_⟩:=l.form;have k:iY B w (.mk f i g j d) (.agg #[(f:Int),(i:Int),(g:Int),j,(x,d.length,K)]):=⟨_,rfl,hl.range c,l⟩
 have W:q<w.heap.size:=Xq
 have s:=zB hb;have a:Cx w (w.alloc (qj 5 ty td (.slice (some ⟨q,m,none⟩) tc.length G) (.slice A4 n4 c4) (.slice A5 n5 c5))):=Zb.alloc Zr _;exact In
include hE hb hl hok hp hfr in
theorem JO(H:tc.length=1)(u:qy p ft 9 ty td tc tf frm ti=r):Cy 100 #[(b,0),nW 9 ty td v3 (.slice A4 n4 c4) (.slice A5 n5 c5),v,((frm:Int):Int),.bool ti] w (Cv (r:Int) w):=by
 have X:0<tc.length:=O
 obtain⟨⟨f,i,g,j,d⟩,c⟩:∃e,tc[0]?=some e:=⟨_,Dz O⟩
 have t:tc.getD 0 jj=.mk f i g j d:=by
  rw[Yk,c];rfl
 have A:=U (jK hok c);have D:=U (show qu p tf (.mk f i g j d) 1=r by rw[<-u,qy];rw[Dl Up,Dl Up,Dl Up,Dl Up,Dl Up,Dm Up,t]);clear H;obtain⟨_,_,_,_,_,_,rfl,rfl,rfl⟩:=hE.form;obtain⟨_,G,rfl,_⟩:=hl.form;obtain⟨q,m,_,I,_,L,M,N,P,Q,l⟩:=hl.cells c;subst I;rw[show m+0*5=m by omega]at L M N P Q;obtain⟨x,K,rfl,_⟩:=l.form;have k:iY B w (.mk f i g j d) (.agg #[(f:Int),(i:Int),(g:Int),j,(x,d.length,K)]):=⟨_,rfl,hl.range c,l⟩
 have W:q<w.heap.size:=Xq
 have s:=zB hb;have a:Cx w (w.alloc (qj 9 ty td (.slice (some ⟨q,m,none⟩) tc.length G) (.slice A4 n4 c4) (.slice A5 n5 c5))):=Zb.alloc Zr _;exact In
include hE hb hl hok hp hfr in
theorem GD(N:tc.length=1)(D:qy p ft 8 ty td tc tf frm ti=r):Cy 100 #[(b,0),nW 8 ty td v3 (.slice A4 n4 c4) (.slice A5 n5 c5),v,((frm:Int):Int),.bool ti] w (Cv (r:Int) w):=by
 have af:0<tc.length:=O
 obtain⟨⟨i,k,j,l,f⟩,g⟩:∃e,tc[0]?=some e:=⟨_,Dz O⟩
 have C:tc.getD 0 jj=.mk i k j l f:=by
  rw[Yk,g];rfl
 have H:=U (jK hok g);have J:=U (show qu p tf (.mk i k j l f) ft=r by rw[<-D,qy];rw[Dl Up,Dl Up,Dl Up,Dl Up,Dm Up,C]);clear N;obtain⟨_,_,_,_,_,_,rfl,rfl,rfl⟩:=hE.form;obtain⟨_,m,rfl,_⟩:=hl.form;obtain⟨a,c,_,P,_,V,W,X,Y,Z,z⟩:=hl.cells g;subst P;rw[show c+0*5=c by omega]at V W X Y Z;obtain⟨A,E,rfl,_⟩:=z.form;have t:iY B w (.mk i k j l f) (.agg #[(i:Int),(k:Int),(j:Int),l,(A,f.length,E)]):=⟨_,rfl,hl.range g,z⟩
 have R:a<w.heap.size:=Xq
 have y:=zB hb;have d:Cx w (w.alloc (qj 8 ty td (.slice (some ⟨a,c,none⟩) tc.length m) (.slice A4 n4 c4) (.slice A5 n5 c5))):=Zb.alloc Zr _;have K:=U d;have ab:=U hE;have ad:=U (hE.below (d.mono hE.hB));have G:=U (hE.below (d.drew.mono hE.hB));have aa:=U ((d.block b y).trans hb);have F:=U ((d.drew.block b y).trans hb);have ae:=U (t.below (d.mono hE.hB) Zr);have M:=U (t.below (d.drew.mono hE.hB) Zr);have I:=U hp;obtain⟨⟨_,_,_,_,_,_,_⟩,_⟩:=zS hb;clear hE hb hl hok hp D d g C z t;go_enter func100,ntmps100;go_wp2_with fail
 go_region_held3 (fun w'=>w'.cell? (b,3)=some (.int .i64 ft)/\w'.cell? (w.heap.size,3)=some (.slice (some ⟨a,c,none⟩) tc.length m)/\w'.cell? (a,c)=some (.int .i64 i)/\w'.cell? (a,c+1)=some (.int .i64 k)/\w'.cell? (a,c+2)=some (.int .i64 j)/\w'.cell? (a,c+3)=some (.string l)/\w'.cell? (a,c+4)=some (.slice A f.length E))
  (first
    |(go_split_ands;refine⟨?_,?_,?_,?_,?_,?_,?_⟩ <;>(first|(rw[T];assumption)|(rw[S];simp;done)|(rw[Q];assumption)))
    |go_keep)
  (first
    | (go_at_call 119
       (refine(xM B b p tf _ _ _ _ _ _ _ _ _ fs ft n (w.alloc (qj 8 ty td (.slice (some ⟨a,c,none⟩) tc.length m) (.slice A4 n4 c4) (.slice A5 n5 c5))).drew G.o F.o M.o H.o I.o J.o).mono ?_)
       rintro e s ⟨rfl,u⟩;have q:Cx w s:=K.o.trans (Zb.drew.trans (u.mono Xa));have T:∀x,s.cell? ⟨b,x,none⟩=w.cell? ⟨b,x,none⟩:=fun x=>q.cell (p:=⟨b,x,none⟩) y
       have S:∀x,s.cell? ⟨w.heap.size,x,none⟩=(w.alloc (qj 8 ty td (.slice (some ⟨a,c,none⟩) tc.length m) (.slice A4 n4 c4) (.slice A5 n5 c5))).cell? ⟨w.heap.size,x,none⟩:=fun x=>u.cell (p:=⟨w.heap.size,x,none⟩) Xf
       have Q:∀x,s.cell? ⟨a,x,none⟩=w.cell? ⟨a,x,none⟩:=fun x=>q.cell (p:=⟨a,x,none⟩) R
       have L:=U q
       clear u q))
 go_wp2_with fail;go_ret;exact⟨rfl,L.o⟩
include hE hb hl hok hp hfr in
theorem GE(c:zX tf td=none)(g:qy p ft 2 ty td tc tf frm ti=r):Cy 100 #[(b,0),nW 2 ty td v3 (.slice A4 n4 c4) (.slice A5 n5 c5),v,((frm:Int):Int),.bool ti] w (Cv (r:Int) w):=by
 have j:=U (show(50 :Int)=r by rw[<-g,qy];rw[Dl Up,Dm Up,c]);have k:=U (show(zX tf td).getD 0=0 by rw[c];rfl);have l:=U (show(zX tf td).isSome=false by rw[c];rfl);clear c;obtain⟨_,_,_,_,_,_,rfl,rfl,rfl⟩:=hE.form;obtain⟨i,n,rfl,_⟩:=hl.form;have f:=zB hb;have a:Cx w (w.alloc (qj 2 ty td (.slice i tc.length n) (.slice A4 n4 c4) (.slice A5 n5 c5))):=Zb.alloc Zr _;have m:=U a;have t:=U hE;have d:=U (hE.below (a.mono hE.hB));have u:=U (hE.below (a.drew.mono hE.hB));have q:=U ((a.block b f).trans hb);have s:=U ((a.drew.block b f).trans hb);have x:=U hp;obtain⟨⟨_,_,_,_,_,_,_⟩,_⟩:=zS hb;clear hE hb hl hok hp g a;go_enter func100,ntmps100;go_wp2_with (go_at_call 72;(with_reducible refine(kR B tf td _ _ k.o l.o _ _ d.o.hB d.o.hv).mono ?_);rintro e w9 ⟨rfl,rfl⟩);go_ret;exact⟨qK j.o,m.o⟩
include hE hb hl hok hp hfr in
theorem TW(t:Int)(f:zX tf td=some t)(L:tc.length=1)(z:qy p ft 2 ty td tc tf frm ti=r):Cy 100 #[(b,0),nW 2 ty td v3 (.slice A4 n4 c4) (.slice A5 n5 c5),v,((frm:Int):Int),.bool ti] w (Cv (r:Int) w):=by
 have ab:0<tc.length:=O
 obtain⟨⟨g,j,i,k,d⟩,c⟩:∃e,tc[0]?=some e:=⟨_,Dz O⟩
 have y:tc.getD 0 jj=.mk g j i k d:=by
  rw[Yk,c];rfl
 have D:=U (jK hok c);have F:=U (show qu p tf (.mk g j i k d) t=r by rw[<-z,qy];rw[Dl Up,Dm Up,f,y]);have G:=U (show(zX tf td).getD 0=t by rw[f];rfl);have H:=U (show(zX tf td).isSome=true by rw[f];rfl);clear f L;obtain⟨_,_,_,_,_,_,rfl,rfl,rfl⟩:=hE.form;obtain⟨_,K,rfl,_⟩:=hl.form;obtain⟨u,s,_,M,_,Q,R,S,T,V,q⟩:=hl.cells c;subst M;rw[show s+0*5=s by omega]at Q R S T V;obtain⟨A,P,rfl,_⟩:=q.form;have m:iY B w (.mk g j i k d) (.agg #[(g:Int),(j:Int),(i:Int),k,(A,d.length,P)]):=⟨_,rfl,hl.range c,q⟩
 have aa:u<w.heap.size:=Xq
 have x:=zB hb;have a:Cx w (w.alloc (qj 2 ty td (.slice (some ⟨u,s,none⟩) tc.length K) (.slice A4 n4 c4) (.slice A5 n5 c5))):=Zb.alloc Zr _;have I:=U a;have X:=U hE;have l:=U (hE.below (a.mono hE.hB));have Y:=U (hE.below (a.drew.mono hE.hB));have C:=U ((a.block b x).trans hb);have W:=U ((a.drew.block b x).trans hb);have J:=U (m.below (a.mono hE.hB) Zr);have Z:=U (m.below (a.drew.mono hE.hB) Zr);have E:=U hp;obtain⟨⟨_,_,_,_,_,_,_⟩,_⟩:=zS hb;clear hE hb hl hok hp z a c y q m;go_enter func100,ntmps100
 go_wp2_with (first
  |(go_at_call 72;(with_reducible refine(kR B tf td _ _ G.o H.o _ _ l.o.hB l.o.hv).mono ?_);rintro e w9 ⟨rfl,rfl⟩)
  |(go_at_call 119;(with_reducible refine(xM B b p tf _ _ _ _ _ _ _ _ _ fs ft n _ l.o C.o J.o D.o E.o F.o).mono ?_);rintro e _ ⟨rfl,N⟩))
 go_ret;exact⟨rfl,I.o.trans (N.mono Ut)⟩
include hE hb hl hok hp hfr in
theorem GF(j:ze p.wa td=none)(m:qy p ft 3 ty td tc tf frm ti=r):Cy 100 #[(b,0),nW 3 ty td v3 (.slice A4 n4 c4) (.slice A5 n5 c5),v,((frm:Int):Int),.bool ti] w (Cv (r:Int) w):=by
 have t:=U (show(50 :Int)=r by rw[<-m,qy];rw[Dl Up,Dl Up,Dm Up,j];rfl);have s:=U (show ko (ze p.wa td)= -1 by rw[j];rfl);clear j;obtain⟨n,z,q,A,_,_,rfl,rfl,rfl⟩:=hE.form;obtain⟨c,f,rfl,_⟩:=hl.form;have i:=zB hb;have a:Cx w (w.alloc (qj 3 ty td (.slice c tc.length f) (.slice A4 n4 c4) (.slice A5 n5 c5))):=Zb.alloc Zr _;have u:=U a;have G:=U hE;have H:=U (hE.below (a.mono hE.hB));have d:=U (hE.below (a.drew.mono hE.hB));have E:=U ((a.block b i).trans hb);have F:=U ((a.drew.block b i).trans hb);have I:=U hp;obtain⟨⟨_,_,_,_,_,_,_⟩,_⟩:=zS hb;clear hE hb hl hok hp m a;go_enter func100,ntmps100;go_wp2_with fail
 go_region_held3 (fun w'=>w'.cell? (b,0)=some (.slice n p.wa.length z)/\w'.cell? (b,1)=some (.slice q p.funcs.length A)/\w'.cell? (w.heap.size,2)=some (.string td))
  (first
    |(go_split_ands;refine⟨?_,?_,?_⟩ <;>(first|(rw[D];assumption)|(rw[C];simp;done)))
    |go_keep)
  (first
    | (go_at_call 99
       (refine(y8 B p td _ s.o _ _ (w.alloc (qj 3 ty td (.slice c tc.length f) (.slice A4 n4 c4) (.slice A5 n5 c5))).drew d.o.hB d.o.ha d.o.hf).mono ?_)
       rintro e l ⟨rfl,g⟩;have k:Cx w l:=u.o.trans (Zb.drew.trans (g.mono Xa));have D:∀x,l.cell? ⟨b,x,none⟩=w.cell? ⟨b,x,none⟩:=fun x=>k.cell (p:=⟨b,x,none⟩) i
       have C:∀x,l.cell? ⟨w.heap.size,x,none⟩=(w.alloc (qj 3 ty td (.slice c tc.length f) (.slice A4 n4 c4) (.slice A5 n5 c5))).cell? ⟨w.heap.size,x,none⟩:=fun x=>g.cell (p:=⟨w.heap.size,x,none⟩) Xf
       have y:=U k
       clear g k))
 go_wp2_with fail;go_ret;exact⟨qK t.o,y.o⟩
include hE hb hl hok hp hfr in
theorem TX(k:Nat)(Y:ze p.wa td=some k)(T:tc.length=2)(av:qy p ft 3 ty td tc tf frm ti=r):Cy 100 #[(b,0),nW 3 ty td v3 (.slice A4 n4 c4) (.slice A5 n5 c5),v,((frm:Int):Int),.bool ti] w (Cv (r:Int) w):=by
 have bm:0<tc.length:=O
 have bn:1<tc.length:=O
 obtain⟨⟨u,z,y,A,t⟩,G⟩:∃e,tc[0]?=some e:=⟨_,Dz O⟩
 have ap:tc.getD 0 jj=.mk u z y A t:=by
  rw[Yk,G];rfl
 have ah:=U (jK hok G);obtain⟨⟨J,L,K,M,D⟩,H⟩:∃e,tc[1]?=some e:=⟨_,Dz O⟩
 have aq:tc.getD 1 jj=.mk J L K M D:=by
  rw[Yk,H];rfl
 have aT:=U (jK hok H);have aU:=U (show(if qu p tf (.mk u z y A t) 1=0 then qu p tf (.mk J L K M D) 1 else qu p tf (.mk u z y A t) 1)=r by have ao:=av;rw[qy,Dl Up,Dl Up,Dm Up,Y,Dm Xt,ap,aq]at ao;exact ao);have aS:=U (show ko (ze p.wa td)=(k:Int)by rw[Y];rfl);clear Y T;obtain⟨aN,aY,aO,aZ,_,_,rfl,rfl,rfl⟩:=hE.form;obtain⟨_,m,rfl,_⟩:=hl.form;obtain⟨c,d,_,a2,_,aD,aE,aF,aG,aH,ab⟩:=hl.cells G;subst a2;rw[show d+0*5=d by omega]at aD aE aF aG aH;obtain⟨aP,ba,rfl,_⟩:=ab.form;have W:iY B w (.mk u z y A t) (.agg #[(u:Int),(z:Int),(y:Int),A,(aP,t.length,ba)]):=⟨_,rfl,hl.range G,ab⟩
 have a5:c<w.heap.size:=Xq
 obtain⟨a0,a9,_,V,_,aI,aJ,aK,aL,aM,ad⟩:=hl.cells H;obtain⟨rfl,rfl⟩:c=a0/\d=a9:=by injection V with V;injection V with T a1 _;exact⟨T,a1⟩
 rw[show d+1*5=d+5 by omega]at aI aJ aK aL aM;obtain⟨aQ,bb,rfl,_⟩:=ad.form;have X:iY B w (.mk J L K M D) (.agg #[(J:Int),(L:Int),(K:Int),M,(aQ,D.length,bb)]):=⟨_,rfl,hl.range H,ad⟩
 have F:=zB hb;have i:Cx w (w.alloc (qj 3 ty td (.slice (some ⟨c,d,none⟩) tc.length m) (.slice A4 n4 c4) (.slice A5 n5 c5))):=Zb.alloc Zr _;have ak:=U i;have Q:=U hE;have bj:=U (hE.below (i.mono hE.hB));have N:=U (hE.below (i.drew.mono hE.hB));have aR:=U ((i.block b F).trans hb);have bi:=U ((i.drew.block b F).trans hb);have bk:=U (W.below (i.mono hE.hB) Zr);have aW:=U (W.below (i.drew.mono hE.hB) Zr);have bl:=U (X.below (i.mono hE.hB) Zr);have aX:=U (X.below (i.drew.mono hE.hB) Zr);have R:=U hp;obtain⟨⟨_,_,_,_,_,_,_⟩,_⟩:=zS hb;clear hE hb hl hok hp av i G ap ab W H aq ad X;go_enter func100,ntmps100;obtain⟨ae,Z⟩:=Cz (qu p tf (.mk u z y A t) 1);obtain⟨bc,aa⟩:=Cz (qu p tf (.mk J L K M D) 1);have ai:=U Z;have aV:=U aa;have aj:=U (show(if ae=0 then bc else ae)=r by rw[<-Z,<-aa];exact aU.o);clear Z aa;go_wp2_with fail
 go_region_held3 (fun w'=>w'.cell? (b,0)=some (.slice aN p.wa.length aY)/\w'.cell? (b,1)=some (.slice aO p.funcs.length aZ)/\w'.cell? (w.heap.size,2)=some (.string td))
  (first
    |(go_split_ands;refine⟨?_,?_,?_⟩ <;>(first|(rw[a7];assumption)|(rw[au];simp;done)))
    |go_keep)
  (first
    | (go_at_call 99
       (refine(y8 B p td _ aS.o _ _ (w.alloc (qj 3 ty td (.slice (some ⟨c,d,none⟩) tc.length m) (.slice A4 n4 c4) (.slice A5 n5 c5))).drew N.o.hB N.o.ha N.o.hf).mono ?_)
       rintro e l ⟨rfl,E⟩;have I:Cx w l:=ak.o.trans (Zb.drew.trans (E.mono Xa));have a7:∀x,l.cell? ⟨b,x,none⟩=w.cell? ⟨b,x,none⟩:=fun x=>I.cell (p:=⟨b,x,none⟩) F
       have au:∀x,l.cell? ⟨w.heap.size,x,none⟩=(w.alloc (qj 3 ty td (.slice (some ⟨c,d,none⟩) tc.length m) (.slice A4 n4 c4) (.slice A5 n5 c5))).cell? ⟨w.heap.size,x,none⟩:=fun x=>E.cell (p:=⟨w.heap.size,x,none⟩) Xf
       have ar:l.cell? (w.heap.size,3)=some (.slice (some ⟨c,d,none⟩) tc.length m):=by rw[au];simp
       have ax:w.heap.size<l.heap.size:=by have:=E.size;simp at this;omega
       have S:=C0 (Below w.heap.size ((w.alloc (qj 3 ty td (.slice (some ⟨c,d,none⟩) tc.length m) (.slice A4 n4 c4) (.slice A5 n5 c5))).drew) l) (E.mono Xa);have s:=U ((I.block b F).trans ((ak.o.block b F).symm.trans aR.o));have f:∀x,l.cell? ⟨c,x,none⟩=w.cell? ⟨c,x,none⟩:=fun x=>I.cell (p:=⟨c,x,none⟩) a5
       have C:=U I
       clear E I))
 have j:=U (N.o.below (S.o.mono Q.o.hB));have al:=U (aW.o.below (S.o.mono Q.o.hB) Zr);have am:=U (aX.o.below (S.o.mono Q.o.hB) Zr);have bo:=(f _).trans aD;have bp:=(f _).trans aE;have bq:=(f _).trans aF;have br:=(f _).trans aG;have bs:=(f _).trans aH;have ay:=(f _).trans aI;have az:=(f _).trans aJ;have aA:=(f _).trans aK;have aB:=(f _).trans aL;have aC:=(f _).trans aM;have g:c<l.heap.size:=by have:=C.o.size;omega
 by_cases aw:ae=0
 .subst aw
  go_wp2_with (first
   | (go_at_call 119;(with_reducible refine(xM B b p tf _ _ _ _ _ _ _ _ _ fs ft n _ j.o s.o al.o ah.o R.o ai.o).mono ?_);rintro e q ⟨rfl,a⟩
      have a6:q.cell? (w.heap.size,3)=some (.slice (some ⟨c,d,none⟩) tc.length m):=(a.cell (p:=(w.heap.size,3)) ax).trans ar;have a8:w.heap.size<q.heap.size:=Xh
      have a4:c<q.heap.size:=Xh
      have bd:=(a.cell (p:=⟨c,_,none⟩) g).trans ay;have be:=(a.cell (p:=⟨c,_,none⟩) g).trans az;have bf:=(a.cell (p:=⟨c,_,none⟩) g).trans aA;have bg:=(a.cell (p:=⟨c,_,none⟩) g).trans aB;have bh:=(a.cell (p:=⟨c,_,none⟩) g).trans aC;have ag:=U (j.o.below (a.mono j.o.hB));have af:=U ((a.block b (zB s.o)).trans s.o);have an:=U (am.o.below (a.mono j.o.hB) Zr);have P:=U (C.o.trans (a.mono C.o.size))
      clear a)
   |(go_at_call 119;(with_reducible refine(xM B b p tf _ _ _ _ _ _ _ _ _ fs ft n _ ag.o af.o an.o aT.o R.o aV.o).mono ?_);rintro e _ ⟨rfl,a3⟩))
  go_ret;exact⟨qK (by rw[<-aj.o];rfl),P.o.trans (a3.mono P.o.size)⟩
 .go_wp2_with (first
   | (go_at_call 119;(with_reducible refine(xM B b p tf _ _ _ _ _ _ _ _ _ fs ft n _ j.o s.o al.o ah.o R.o ai.o).mono ?_);rintro e q ⟨rfl,a⟩
      have a6:q.cell? (w.heap.size,3)=some (.slice (some ⟨c,d,none⟩) tc.length m):=(a.cell (p:=(w.heap.size,3)) ax).trans ar;have a8:w.heap.size<q.heap.size:=Xh
      have a4:c<q.heap.size:=Xh
      have bd:=(a.cell (p:=⟨c,_,none⟩) g).trans ay;have be:=(a.cell (p:=⟨c,_,none⟩) g).trans az;have bf:=(a.cell (p:=⟨c,_,none⟩) g).trans aA;have bg:=(a.cell (p:=⟨c,_,none⟩) g).trans aB;have bh:=(a.cell (p:=⟨c,_,none⟩) g).trans aC;have ag:=U (j.o.below (a.mono j.o.hB));have af:=U ((a.block b (zB s.o)).trans s.o);have an:=U (am.o.below (a.mono j.o.hB) Zr);have P:=U (C.o.trans (a.mono C.o.size))
      clear a))
  go_ret;exact⟨qK (by rw[<-aj.o,Dl aw]),P.o⟩
include hE hb hl hok hp hfr in
theorem ZB(W:tc.length=1)(F:qy p ft 10 ty td tc tf frm ti=r):Cy 100 #[(b,0),nW 10 ty td v3 (.slice A4 n4 c4) (.slice A5 n5 c5),v,((frm:Int):Int),.bool ti] w (Cv (r:Int) w):=by
 have an:0<tc.length:=O
 obtain⟨⟨i,k,j,l,g⟩,m⟩:∃e,tc[0]?=some e:=⟨_,Dz O⟩
 have E:tc.getD 0 jj=.mk i k j l g:=by
  rw[Yk,m];rfl
 have K:=U (jK hok m);have M:=U (show(qF p tf (.mk i k j l g)).2=r by rw[<-F,qy];rw[Dl Up,Dl Up,Dl Up,Dl Up,Dl Up,Dl Up,Dm Up,E]);clear W;obtain⟨H,T,I,V,_,_,rfl,rfl,rfl⟩:=hE.form;obtain⟨_,n,rfl,_⟩:=hl.form;obtain⟨a,c,_,X,_,ad,ae,af,ag,ah,A⟩:=hl.cells m;subst X;rw[show c+0*5=c by omega]at ad ae af ag ah;obtain⟨D,G,rfl,_⟩:=A.form;have u:iY B w (.mk i k j l g) (.agg #[(i:Int),(k:Int),(j:Int),l,(D,g.length,G)]):=⟨_,rfl,hl.range m,A⟩
 have Z:a<w.heap.size:=Xq
 have z:=zB hb;have d:Cx w (w.alloc (qj 10 ty td (.slice (some ⟨a,c,none⟩) tc.length n) (.slice A4 n4 c4) (.slice A5 n5 c5))):=Zb.alloc Zr _;have Q:=U d;have ak:=U hE;have al:=U (hE.below (d.mono hE.hB));have J:=U (hE.below (d.drew.mono hE.hB));have ai:=U ((d.block b z).trans hb);have aj:=U ((d.drew.block b z).trans hb);have am:=U (u.below (d.mono hE.hB) Zr);have S:=U (u.below (d.drew.mono hE.hB) Zr);have L:=U hp;obtain⟨⟨_,_,_,_,_,_,_⟩,_⟩:=zS hb;clear hE hb hl hok hp F d m E A u;go_enter func100,ntmps100;obtain⟨⟨t,f⟩,C⟩:=Cz (qF p tf (.mk i k j l g));have P:=U C;have N:=U (show f=r by rw[<-M.o,C]);clear C;go_wp2_with fail
 go_region_held3 (fun w'=>w'.cell? (b,0)=some (.slice H p.wa.length T)/\w'.cell? (b,1)=some (.slice I p.funcs.length V)/\w'.cell? (w.heap.size,3)=some (.slice (some ⟨a,c,none⟩) tc.length n)/\w'.cell? (a,c)=some (.int .i64 i)/\w'.cell? (a,c+1)=some (.int .i64 k)/\w'.cell? (a,c+2)=some (.int .i64 j)/\w'.cell? (a,c+3)=some (.string l)/\w'.cell? (a,c+4)=some (.slice D g.length G))
  (first
    |(go_split_ands;refine⟨?_,?_,?_,?_,?_,?_,?_,?_⟩ <;>(first|(rw[ab];assumption)|(rw[aa];simp;done)|(rw[Y];assumption)))
    |go_keep)
  (first
    | (go_at_call 120
       (refine((oA 100).call (w:=(w.alloc (qj 10 ty td (.slice (some ⟨a,c,none⟩) tc.length n) (.slice A4 n4 c4) (.slice A5 n5 c5))).drew) K.o L.o P.o J.o S.o).mono ?_)
       rintro e s ⟨rfl,y⟩;have q:Cx w s:=Q.o.trans (Zb.drew.trans (y.mono Xa));have ab:∀x,s.cell? ⟨b,x,none⟩=w.cell? ⟨b,x,none⟩:=fun x=>q.cell (p:=⟨b,x,none⟩) z
       have aa:∀x,s.cell? ⟨w.heap.size,x,none⟩=(w.alloc (qj 10 ty td (.slice (some ⟨a,c,none⟩) tc.length n) (.slice A4 n4 c4) (.slice A5 n5 c5))).cell? ⟨w.heap.size,x,none⟩:=fun x=>y.cell (p:=⟨w.heap.size,x,none⟩) Xf
       have Y:∀x,s.cell? ⟨a,x,none⟩=w.cell? ⟨a,x,none⟩:=fun x=>q.cell (p:=⟨a,x,none⟩) Z
       have R:=U q
       clear y q))
 go_wp2_with fail;go_ret;exact⟨qK N.o,R.o⟩
include hE hb hl hok hp hfr in
theorem JP(e:qy p ft 6 ty td tc tf frm ti=r):Cy 100 #[(b,0),nW 6 ty td v3 (.slice A4 n4 c4) (.slice A5 n5 c5),v,((frm:Int):Int),.bool ti] w (Cv (r:Int) w):=by
 have g:=U (show(if ti=true then 0 else 53 :Int)=r by have c:=e;rw[qy,Dl Up,Dl Up,Dl Up,Dl Up,Dl Up,Dl Up,Dl Up]at c;exact c);obtain⟨_,_,_,_,_,_,rfl,rfl,rfl⟩:=hE.form;obtain⟨f,j,rfl,_⟩:=hl.form;have d:=zB hb;have a:Cx w (w.alloc (qj 6 ty td (.slice f tc.length j) (.slice A4 n4 c4) (.slice A5 n5 c5))):=Zb.alloc Zr _;exact Io
include hE hb hl hok hp hfr in
theorem wY(e:qy p ft 7 ty td tc tf frm ti=r):Cy 100 #[(b,0),nW 7 ty td v3 (.slice A4 n4 c4) (.slice A5 n5 c5),v,((frm:Int):Int),.bool ti] w (Cv (r:Int) w):=by
 have g:=U (show(if ti=true then 0 else 53 :Int)=r by have c:=e;rw[qy,Dl Up,Dl Up,Dl Up,Dl Up,Dl Up,Dl Up,Dl Up]at c;exact c);obtain⟨_,_,_,_,_,_,rfl,rfl,rfl⟩:=hE.form;obtain⟨f,j,rfl,_⟩:=hl.form;have d:=zB hb;have a:Cx w (w.alloc (qj 7 ty td (.slice f tc.length j) (.slice A4 n4 c4) (.slice A5 n5 c5))):=Zb.alloc Zr _;exact Io
include hE hb hl hok hp hfr in
theorem TY(ai:tc.length=1)(T:qy p ft 1 ty td tc tf frm ti=r):Cy 100 #[(b,0),nW 1 ty td v3 (.slice A4 n4 c4) (.slice A5 n5 c5),v,((frm:Int):Int),.bool ti] w (Cv (r:Int) w):=by
 have az:0<tc.length:=O
 obtain⟨⟨j,l,k,m,i⟩,t⟩:∃e,tc[0]?=some e:=⟨_,Dz O⟩
 have R:tc.getD 0 jj=.mk j l k m i:=by
  rw[Yk,t];rfl
 have aa:=U (jK hok t);have ad:=U (show(if qu p tf (.mk j l k m i) ty=0 then(if(zX (tf.drop frm) td).isSome then 50 else 0)else qu p tf (.mk j l k m i) ty)=r by have f:=T;rw[qy,Dm Up,R]at f;exact f);clear ai;obtain⟨_,_,_,_,_,_,rfl,rfl,rfl⟩:=hE.form;obtain⟨_,q,rfl,_⟩:=hl.form;obtain⟨a,c,_,aj,_,ao,ap,aq,ar,au,I⟩:=hl.cells t;subst aj;rw[show c+0*5=c by omega]at ao ap aq ar au;obtain⟨J,X,rfl,_⟩:=I.form;have D:iY B w (.mk j l k m i) (.agg #[(j:Int),(l:Int),(k:Int),m,(J,i.length,X)]):=⟨_,rfl,hl.range t,I⟩
 have al:a<w.heap.size:=Xq
 have F:=zB hb;have g:Cx w (w.alloc (qj 1 ty td (.slice (some ⟨a,c,none⟩) tc.length q) (.slice A4 n4 c4) (.slice A5 n5 c5))):=Zb.alloc Zr _;have af:=U g;have z:=U hE;have aw:=U (hE.below (g.mono hE.hB));have L:=U (hE.below (g.drew.mono hE.hB));have av:=U ((g.block b F).trans hb);have Z:=U ((g.drew.block b F).trans hb);have ax:=U (D.below (g.mono hE.hB) Zr);have ah:=U (D.below (g.drew.mono hE.hB) Zr);have ab:=U hp;obtain⟨⟨_,_,_,_,_,_,_⟩,_⟩:=zS hb;clear hE hb hl hok hp T g t R I D;go_enter func100,ntmps100;obtain⟨y,G⟩:=Cz (qu p tf (.mk j l k m i) ty);have ae:=U G;obtain⟨Y,V⟩:=Cz ((zX (tf.drop frm) td).getD 0);obtain⟨C,E⟩:=Cz ((zX (tf.drop frm) td).isSome);have N:=U V;have K:=U E;have M:=U (show(if y=0 then(if C=true then 50 else 0)else y)=r by rw[<-G,<-E];exact ad.o);clear G V E;have an:=z.o.hv;go_wp2_with fail
 go_region_held3 (fun w'=>w'.cell? (w.heap.size,3)=some (.slice (some ⟨a,c,none⟩) tc.length q)/\w'.cell? (w.heap.size,1)=some (.int .i64 ty)/\w'.cell? (a,c)=some (.int .i64 j)/\w'.cell? (a,c+1)=some (.int .i64 l)/\w'.cell? (a,c+2)=some (.int .i64 k)/\w'.cell? (a,c+3)=some (.string m)/\w'.cell? (a,c+4)=some (.slice J i.length X))
  (first
    |(go_split_ands;refine⟨?_,?_,?_,?_,?_,?_,?_⟩ <;>(first|(rw[am];assumption)|(rw[S];simp;done)|(rw[ak];assumption)))
    |go_keep)
  (first
    | (go_at_call 119
       (refine(xM B b p tf _ _ _ _ _ _ _ _ _ fs ft n (w.alloc (qj 1 ty td (.slice (some ⟨a,c,none⟩) tc.length q) (.slice A4 n4 c4) (.slice A5 n5 c5))).drew L.o Z.o ah.o aa.o ab.o ae.o).mono ?_)
       rintro e d ⟨rfl,s⟩;have u:Cx w d:=af.o.trans (Zb.drew.trans (s.mono Xa));have am:∀x,d.cell? ⟨b,x,none⟩=w.cell? ⟨b,x,none⟩:=fun x=>u.cell (p:=⟨b,x,none⟩) F
       have S:∀x,d.cell? ⟨w.heap.size,x,none⟩=(w.alloc (qj 1 ty td (.slice (some ⟨a,c,none⟩) tc.length q) (.slice A4 n4 c4) (.slice A5 n5 c5))).cell? ⟨w.heap.size,x,none⟩:=fun x=>s.cell (p:=⟨w.heap.size,x,none⟩) Xf
       have ay:d.cell? (w.heap.size,2)=some (.string td):=by rw[S];simp
       have aA:w.heap.size<d.heap.size:=by have:=s.size;simp at this;omega
       have ag:=C0 (Below w.heap.size ((w.alloc (qj 1 ty td (.slice (some ⟨a,c,none⟩) tc.length q) (.slice A4 n4 c4) (.slice A5 n5 c5))).drew) d) (s.mono Xa);have ak:∀x,d.cell? ⟨a,x,none⟩=w.cell? ⟨a,x,none⟩:=fun x=>u.cell (p:=⟨a,x,none⟩) al
       have A:=U u
       clear s u))
 have W:=L.o.hv.below (ag.o.mono z.o.hB) Zr;have P:=U (fun n=>(W.dropS frm hfr).below (show Below B d (d.drewN n)from Zb.trans ⟨rfl,rfl,rfl,Dy _,fun _ _=>rfl⟩) Zr);have Q:B<=d.heap.size:=Dr z.o.hB A.o.size;clear W an;by_cases H:y=0
 .subst H
  cases C
  all_goals
   go_wp2_with fail
   go_quiet ((go_at_call 72;exact(kR B (tf.drop frm) td Y _ N.o K.o _ _ (by exact Q) (P.o _)).mono fun e w' f=>⟨f.1,_,f.2.symm⟩))
   go_wp2_with fail
   all_goals go_ret
   all_goals exact⟨qK (by rw[<-M.o];rfl),AS A.o _⟩
 .cases C
  all_goals
   go_wp2_with fail
   go_quiet ((go_at_call 72;exact(kR B (tf.drop frm) td Y _ N.o K.o _ _ (by exact Q) (P.o _)).mono fun e w' f=>⟨f.1,_,f.2.symm⟩))
   have aB:(y == 0)=false:=by simp[H]
   go_wp2_with fail
   all_goals go_ret
   all_goals exact⟨qK (by rw[<-M.o,Dl H]),AS A.o _⟩
theorem kT(k:Int)(d:Bool)(a:zj k ty td tc.length n4 n5 d=true)(c:qy p ft k ty td tc tf frm ti=r)(hE:gG B p tf v0 v1 v w)(hb:w.heap[b]?=some (lD v0 v1 fs ft v2 vb n))(hl:xA B w v3 tc)(hok:zr tc 100=true)(hp:l7 p)(hfr:frm<=tf.length):
 Cy 100 #[(b,0),nW k ty td v3 (.slice A4 n4 c4) (.slice A5 n5 c5),v,((frm:Int):Int),.bool ti] w (Cv (r:Int) w):=by
 rcases AD a with rfl|rfl|rfl|rfl|rfl|rfl|rfl|rfl|rfl|rfl
 .exact TY B b p tf ty td tc frm ti A4 n4 c4 A5 n5 c5 r v3 v0 v1 v v2 vb fs ft n w hE hb hl hok hp hfr Vt c
 .cases hv:zX tf td with
  |none=>exact GE B b p tf ty td tc frm ti A4 n4 c4 A5 n5 c5 r v3 v0 v1 v v2 vb fs ft n w hE hb hl hok hp hfr hv c
  |some t=>exact TW B b p tf ty td tc frm ti A4 n4 c4 A5 n5 c5 r v3 v0 v1 v v2 vb fs ft n w hE hb hl hok hp hfr t hv Vt c
 .cases hv:ze p.wa td with
  |none=>exact GF B b p tf ty td tc frm ti A4 n4 c4 A5 n5 c5 r v3 v0 v1 v v2 vb fs ft n w hE hb hl hok hp hfr hv c
  |some t=>exact TX B b p tf ty td tc frm ti A4 n4 c4 A5 n5 c5 r v3 v0 v1 v v2 vb fs ft n w hE hb hl hok hp hfr t hv Vt c
 .exact ZA B b p tf ty td tc frm ti A4 n4 c4 A5 n5 c5 r v3 v0 v1 v v2 vb fs ft n w hE hb hl hok hp hfr (by simp[zj]at a;exact a.2) c
 .exact JN B b p tf ty td tc frm ti A4 n4 c4 A5 n5 c5 r v3 v0 v1 v v2 vb fs ft n w hE hb hl hok hp hfr (by simp[zj]at a;exact a.1.2) c
 .exact JP B b p tf ty td tc frm ti A4 n4 c4 A5 n5 c5 r v3 v0 v1 v v2 vb fs ft n w hE hb hl hok hp hfr c
 .exact wY B b p tf ty td tc frm ti A4 n4 c4 A5 n5 c5 r v3 v0 v1 v v2 vb fs ft n w hE hb hl hok hp hfr c
 .exact GD B b p tf ty td tc frm ti A4 n4 c4 A5 n5 c5 r v3 v0 v1 v v2 vb fs ft n w hE hb hl hok hp hfr Vt c
 .exact JO B b p tf ty td tc frm ti A4 n4 c4 A5 n5 c5 r v3 v0 v1 v v2 vb fs ft n w hE hb hl hok hp hfr Vt c
 .exact ZB B b p tf ty td tc frm ti A4 n4 c4 A5 n5 c5 r v3 v0 v1 v v2 vb fs ft n w hE hb hl hok hp hfr (by simp[zj]at a;omega) c
end
mutual
def uC:St->Nat
 |.mk _ _ _ _ tg th=>1+d4 tg+d4 th
def d4:List St->Nat
 |[]=>0
 |s::r=>uC s+d4 r
end
theorem tC{l:List St}{j:Nat}{k ty:Int}{td:C2}{tc:List Ex}{tg th:List St}(h:l[j]?=some (.mk k ty td tc tg th)):d4 (l.drop j)=1+d4 tg+d4 th+d4 (l.drop (j+1)):=by
 rw[fL h,d4,uC]
theorem mR{P:Program}{w:C3}(base:Nat)(t ty e:TypeId)(i:TypeInfo)(j:Nat)(b:P.underlying t=some (.slice e))(a:P.info? e=some i)
 (v:C4) (n:Nat) (k:List C4) (f:w.ownsRow base e j v n k) (c:Nat):
 (Builtin.append_ #[t,t] ty #[v,.slice none 0 c]).run P w=.ok v w:=by
 rcases f.2 with⟨rfl,rfl⟩|⟨g,_,_,rfl,_,_,d,_⟩
 .simp[Builtin.append_,run_underlying b,sizeOf,typeInfo,a,Builtin.lenOf,Builtin.firstCells]
 .simp[Builtin.append_,run_underlying b,sizeOf,typeInfo,a,Builtin.lenOf,Builtin.firstCells,d,storeCells]
theorem g5{P:Program}{w:C3}{ops:Array Oper}{b:List Oper}{o:Oper}{a:Act}{Q:Exit->Act->C3->Prop}(k:o.guard=none)(s x:Operand)(t:TypeId)
 (m:o.op=.call { callee:=.builtin .append,args:=#[s,x],argTypes:=#[t,t] })
 (base:Nat) (e:TypeId) (i:TypeInfo) (d:Nat) (u:P.underlying t=some (.slice e)) (l:P.info? e=some i)
 (v:C4) (n:Nat) (f:List C4) (r:a.eval s=v) (p:w.ownsRow base e d v n f) (c:Nat) (y:a.eval x=.slice none 0 c)
 (g:wpList P ops Q b (a.put o.dst v) w):wpList P ops Q (o::b) a w:=by
 refine wpList_plain k fun K j=>?_
 have q:=mR (P:=P) (w:=w) base t o.type e i d u l v n f p c;unfold Oper.wp;simp[execOp,m,resolve,invoke,builtin,r,y,q,Result.andThen];exact j _ _ g
theorem yG{P:Program}{w:C3}{ops:Array Oper}{E:List Oper}{o:Oper}{a:Act}{Q:Exit->Act->C3->Prop}(u:o.guard=none)(s x:Operand)(t:TypeId)
 (A:o.op=.call { callee:=.builtin .append,args:=#[s,x],argTypes:=#[t,t] })
 (base:Nat) (e:TypeId) (i:TypeInfo) (z:C4) (b p:Nat) (C:P.underlying t=some (.slice e)) (y:P.info? e=some i) (T:i.zero=some z)
 (R:i.size=b) (L:i.bytes=p) (V:z.cells.size=b) (S:0<b)
 (v:C4) (n:Nat) (l:List C4) (B:a.eval s=v) (q:w.ownsRow base e b v n l)
 (g:Option Addr) (m c:Nat) (d:List C4) (D:a.eval x=.slice g m c) (hl:d.length=m*b) (J:g=none->m=0) (N:∀f,g=some f->∀j k,d[j]?=some k->w.cell? (f.add j)=some k) (F:∀k∈d,k.oneCell'=true)
 (I:n+m<=maxLen) (M:(n+m)*p<=140737488355328) (K:base<=w.heap.size)
 (r:∀v' w',w'.ownsRow base e b v' (n+m) (l++d)->w.grownBy w' v.ownBlock->wpList P ops Q E (a.put o.dst v') w'):wpList P ops Q (o::E) a w:=by
 cases g with
 |none=>
   obtain rfl:=J rfl;obtain rfl:d=[]:=Yj (by rw[hl];omega);refine g5 u s x t A base e i b C y v n l B q c D (r v w ?_ (World.grownBy.refl w _));rw[D8];exact q
 |some f=>exact wpList_append_own _ u s x t A base e i z b p C y T R L V S v n l B q f m c d D hl (N f rfl) F I M K fun v' w' G H _=>r v' w' G H
structure lE (B b:Nat) (p:Pr) (vars:List Pa) (v0 v1 v:C4) (w:C3):Prop where
 hB:B<=w.heap.size
 hBb:B<=b
 hb:b<w.heap.size
 ha:eZ B w v0 p.wa
 hf:e0 B w v1 p.funcs
 hv:e5 w.heap.size (eG b w) v vars
theorem lE.off{tf:List Pa}{w':C3}(a:lE B b p tf v0 v1 v w)(c:dX b w.heap.size w w'):lE B b p tf v0 v1 v w' where
 hB:=Dr a.hB c.size
 hBb:=a.hBb
 hb:=D6 a.hb c.size
 ha:=a.ha.below (jz c a.hB a.hBb) Zr
 hf:=a.hf.below (jz c a.hB a.hBb) Zr
 hv:=a.hv.below c c.size
theorem lE.below{tf:List Pa}{w':C3}(a:lE B b p tf v0 v1 v w)(c:Cx w w'):lE B b p tf v0 v1 v w':=a.off (dX.wb c a.hb)
theorem lE.renv{tf:List Pa}(a:lE B b p tf v0 v1 v w):gG w.heap.size p tf v0 v1 v w where
 hB:=Dy _
 ha:=a.ha.below Zb a.hB
 hf:=a.hf.below Zb a.hB
 hv:=a.hv.imp fun _ _ _ c=>dZ.wm c
theorem lE.form{tf:List Pa}(i:lE B b p tf v0 v1 v w):∃a e c f d g,v0=.slice a p.wa.length e/\v1=.slice c p.funcs.length f/\v=.slice d tf.length g:=i.renv.form
theorem xi{base:Nat}{l:List Pa}(c:w.ownsRow base 100 2 v l.length (l.flatMap kP.cs))(hb:b<base)(hl:l.length<=281474976710656):e5 w.heap.size (eG b w) v l:=by
 have d:e5 w.heap.size (eE (i3 base) w) v l:=eC.params (B:=base) ⟨c,fun _ _=>trivial⟩ hl;refine d.imp fun g o _ a=>?_
 obtain⟨f,a⟩:=qS a;have e:g≠b:=by have:=jb.1 f;omega
 exact⟨a.1,(D4 (w:=w) (w':=eG b w) (kx w e)).trans a.2⟩
theorem tD:∀(l:List Pa) (g o:Nat),uI 2 (RG B w) l g o->∀j u,(l.flatMap kP.cs)[j]?=some u->w.cell? ⟨g,o+j,none⟩=some u
 |[],_,_,_,j,u,h=>Xs
 | x::r,g,o,hr,j,u,h=>by
   rw[Y2]at h
   match j with
   |0=>simp[kP]at h;subst h;exact hr.1.1.2
   |1=>simp[kP]at h;subst h;exact hr.1.2.2
   |j+2=>
     have:=tD r g (o+2) hr.2 j u (by simpa[kP]using h);rw[show o+(j+2)=o+2+j by omega];exact this
theorem ZC(l:List Pa):∀b∈l.flatMap kP.cs,b.oneCell'=true:=fun b c=>by
 obtain⟨x,_,a⟩:=List.mem_flatMap.1 c;simp[kP]at a;rcases a with rfl|rfl<;>rfl
theorem TZ(l:List Pa):(l.flatMap kP.cs).length=l.length*2:=by
 induction l with
 |nil=>rfl
 |cons x r a=>rw[Y2,Dn,a,Dp];show 2+_=_;omega
theorem vY(l:List Pa)(s:C2)(t:Int):(l++[(⟨s,t⟩:Pa)]).flatMap kP.cs=l.flatMap kP.cs++[.string s,.int .i64 t]:=by
 rw[Cq];rfl
structure p1 (B b:Nat) (p:Pr) (vX:List Pa) (v0 v1 v:C4) (fs:C2) (ft:Int) (v2 v3:C4) (n:Nat) (w:C3) (m:Nat) (so:Obj) (thn els:List St) (v4 v5:C4) (W:C3):Prop where
 off:dX b w.heap.size w W
 row:W.heap[b]?=some (lD v0 v1 fs ft v2 v3 (eH n))
 env:lE B b p vX v0 v1 v W
 box:W.heap[m]?=some so
 s4:eN B W v4 thn
 s5:eN B W v5 els
 own:W.ownsRow w.heap.size 100 2 v vX.length (vX.flatMap kP.cs)
 ne:m≠b
 hb:b<w.heap.size
section
variable {B b:Nat}{p:Pr}{vX:List Pa}{v0 v1 v:C4}{fs:C2}{ft:Int}{v2 v3:C4}{n:Nat}{w:C3}{m:Nat}{so:Obj}{tg th:List St}{v4 v5:C4} {W W':C3}
theorem p1.step(a:p1 B b p vX v0 v1 v fs ft v2 v3 n w m so tg th v4 v5 W)(c:dX b W.heap.size W W'){e:Nat}(hb:W'.heap[b]?=some (lD v0 v1 fs ft v2 v3 (eH e))):p1 B b p vX v0 v1 v fs ft v2 v3 e w m so tg th v4 v5 W' where
 off:=a.off.trans (c.mono a.off.size)
 row:=hb
 env:=a.env.off c
 box:=(c.block (zB a.box) a.ne).trans a.box
 s4:=a.s4.below (jz c a.env.hB a.env.hBb) Zr
 s5:=a.s5.below (jz c a.env.hB a.env.hBb) Zr
 own:=zv a.own fun g d=>c.block (zR a.own g d).2 (by have:=(zR a.own g d).1;have:=a.hb;omega)
 ne:=a.ne
 hb:=a.hb
theorem p1.set(h:p1 B b p vX v0 v1 v fs ft v2 v3 n w m so tg th v4 v5 W):p1 B b p vX v0 v1 v fs ft v2 v3 (n+1) w m so tg th v4 v5 (W.setCell (b,6) ((eH (n+1)):Int)):=
 h.step ((dX.refl b _ W).setb (zB h.row) 6 _) (D0 h.row _)
end
theorem T0:(Tryz.prog.info? 100).map (fun i=>(i.zero,i.size,i.bytes))=some (some (.agg #[.string ⟨#[]⟩,(0:Int)]),2,24):=by kernel_rfl
def T1(b:Nat)(w:C3)(v0 v1:C4)(fs:C2)(ft:Int)(v2 v3:C4)(R:Int×Nat)(e:Ending)(w':C3):Prop:=
 e=.returned (R.1:Int)/\dX b w.heap.size w w'/\w'.heap[b]?=some (lD v0 v1 fs ft v2 v3 (eH R.2))
def BlC(m:Nat):Prop:=∀(B b:Nat) (p:Pr) (tf:List Pa) (l:List St) (ti:Bool) (n:Nat) (R:Int×Nat) (a v0 v1 v:C4) (fs:C2) (ft:Int) (v2 v3:C4) (w:C3),
 d3 l m=true->l7 p->zW p ft l tf tf.length ti n=R->lE B b p tf v0 v1 v w->w.heap[b]?=some (lD v0 v1 fs ft v2 v3 (eH n))->eN B w a l->tf.length+d4 l<=1000000000->
 Cy 73 #[(b,0),a,v,.bool ti] w (T1 b w v0 v1 fs ft v2 v3 R)
theorem BlC.call{m:Nat}(c:BlC m){B b:Nat}{p:Pr}{tf:List Pa}{l:List St}{ti:Bool}{n:Nat}{R:Int×Nat}{a v0 v1 v:C4}{fs:C2}{ft:Int}{v2 v3:C4}{w:C3}
 (d:d3 l m=true) (e:l7 p) (f:zW p ft l tf tf.length ti n=R) (g:lE B b p tf v0 v1 v w) (i:w.heap[b]?=some (lD v0 v1 fs ft v2 v3 (eH n))) (j:eN B w a l) (k:tf.length+d4 l<=1000000000):
 Cy 73 #[(b,0),a,v,.bool ti] w (T1 b w v0 v1 fs ft v2 v3 R):=c B b p tf l ti n R a v0 v1 v fs ft v2 v3 w d e f g i j k
theorem C6{s:C2}:∀{l:List Ar}{k:Nat},ze l s=some k->∃f,l[k]?=some f/\f.name=s/\∀(i:Nat) g,i<k->l[i]?=some g->g.name≠s
 |[],_,a=>Xb
 | f::r,k,a=>by
   rw[ze]at a;split at a
   .rename_i e
    injection a with a;subst a;exact⟨f,rfl,e,fun i g c=>absurd c O⟩
   .rename_i e
    cases hr:ze r s with
    |none=>rw[hr]at a;cases a
    |some j=>
      rw[hr]at a;obtain rfl:j+1=k:=Uy
      obtain⟨g,d,m,n⟩:=C6 hr;refine⟨g,Xi,m,fun i x c b=>?_⟩;cases i with
      |zero=>simp at b;subst b;exact e
      |succ i=>exact n i x O Uz
def frF(l:List Fu):Prop:=∀(i:Nat) f,l[i]?=some f->qN l f.name=some i
theorem mS:∀{l:List Fu},yV l=false↔frF l
 |[]=>⟨fun _ i f b=>by simp at b,fun _=>rfl⟩
 | x::r=>by
   rw[yV,Cb,mS (l:=r)];constructor
   .rintro⟨d,k⟩ i f a
    cases i with
    |zero=>simp at a;subst a;rw[qN,Dm rfl]
    |succ i=>
      have g:r[i]?=some f:=Uy
      have m:=k i f g
      have c:¬x.name=f.name:=fun e=>by
       rw[xY,Ch]at d;exact d f (Ye g) (by simp[e])
      rw[qN,Dl c,m];rfl
   .intro b
    refine⟨?_,fun i f a=>?_⟩
    .rw[xY,Ch]
     intro f n;obtain⟨i,a⟩:=List.getElem?_of_mem n;have:=b (i+1) f Uy;rw[qN]at this;split at this
     .cases this
     .rename_i c
      simp;exact fun e=>c e.symm
    .have:=b (i+1) f Uy
     rw[qN]at this;split at this
     .cases this
     .cases hr:qN r f.name with
      |none=>rw[hr]at this;cases this
      |some j=>
        rw[hr]at this;have:j=i:=Gk
        rw[this]
def frA(p:Pr)(l:List Ar):Prop:=∀(i:Nat) f,l[i]?=some f->ze l f.name=some i/\qN p.funcs f.name=none
theorem g6(p:Pr):∀{l:List Ar},yK p l=false↔frA p l
 |[]=>⟨fun _ i f b=>by simp at b,fun _=>rfl⟩
 | x::r=>by
   rw[yK,Cb,Cb,g6 p (l:=r)];constructor
   .rintro⟨⟨d,k⟩,m⟩ i f a
    cases i with
    |zero=>simp at a;subst a;exact⟨by rw[ze,Dm rfl],by simpa using k⟩
    |succ i=>
      have g:r[i]?=some f:=Uy
      obtain⟨n,o⟩:=m i f g
      have c:¬x.name=f.name:=fun e=>by
       rw[yg,Ch]at d;exact d f (Ye g) (by simp[e])
      exact⟨by rw[ze,Dl c,n];rfl,o⟩
   .intro b
    refine⟨⟨?_,?_⟩,fun i f a=>⟨?_,(b (i+1) f Uy).2⟩⟩
    .rw[yg,Ch]
     intro f q;obtain⟨i,a⟩:=List.getElem?_of_mem q;have:=(b (i+1) f Uy).1;rw[ze]at this;split at this
     .cases this
     .rename_i c
      simp;exact fun e=>c e.symm
    .have:=(b 0 x rfl).2
     simp[this]
    .have:=(b (i+1) f Uy).1
     rw[ze]at this;split at this
     .cases this
     .cases hr:ze r f.name with
      |none=>rw[hr]at this;cases this
      |some j=>
        rw[hr]at this;have:j=i:=Gk
        rw[this]
theorem mT(B:Nat)(p:Pr)(r:Bool)(v0 v1:C4)(w:C3)(z:B<=w.heap.size)(aq:eZ B w v0 p.wa)(ar:e0 B w v1 p.funcs)(aL:(!(yK p p.wa || yV p.funcs)&&kd p)=r):
 Cy 71 #[.agg #[v0,v1]] w (Cv r w):=by
 obtain⟨ai,S,rfl,_⟩:=aq.form;obtain⟨aa,T,rfl,_⟩:=ar.form;have ab:=U aq;have ae:=U ar;have af:=U aL;clear aq ar aL;go_enter func71,ntmps71;go_wp2_with fail
 go_loopw [3] (fun iv wr=>∃i:Nat,i<=p.wa.length/\iv=.int .i64 i/\(∀(k:Nat) f,k<i->p.wa[k]?=some f->ze p.wa f.name=some k/\qN p.funcs f.name=none)/\wr.heap[w.heap.size]?=some (qW ai p.wa.length S aa p.funcs.length T)/\Cx w wr) (fun iv _=>p.wa.length-(intOf iv).toNat)
 case atStart=>exact⟨0,Dw _,rfl,fun k f s=>absurd s O,Dq _ _,Zb.alloc Zr _⟩
 case round=>
  obtain⟨i,aV,rfl,A,v,l⟩:=hrel;obtain⟨⟨a2,a3⟩,a4⟩:=zD v;have J:w.heap.size<wr.heap.size:=zB v;have aO:=U A;have aG:=U v;have ad:=U l;by_cases aW:i<p.wa.length
  .obtain⟨c,K⟩:∃e,p.wa[i]?=some e:=⟨_,Dz aW⟩
   obtain⟨g,o,rfl,aK,aY,aN⟩:=(ab.o.below (l.mono z) Zr).cells K;have X:g<wr.heap.size:=O
   have M:=U K;have G:Cx wr wr.drew:=Zb.drew;have D:=U (ab.o.below ((l.trans (G.mono O)).mono z) Zr);have E:=U (ae.o.below ((l.trans (G.mono O)).mono z) Zr);obtain⟨ah,aM⟩:=Cz (ko (ze p.wa c.name));obtain⟨L,Y⟩:=Cz (ko (qN p.funcs c.name));have R:=U aM;have C:=U Y;clear K v l A aM Y G;have W:ah≠(i:Int)\/ah=(i:Int)/\0<=L\/ah=(i:Int)/\¬0<=L:=O
   rcases W with j|⟨j,N⟩|⟨j,N⟩
   case inl=>
    have ag:yK p p.wa=true:=by
     cases hd:yK p p.wa with
     |true=>rfl
     |false=>
       have V:=((g6 p).1 hd i c M.o).1;have n:=R.o;rw[V]at n;exact absurd n.symm j
    have aS:=U ag;clear ag;have n1:(ah != (i:Int))=true:=by simp[j]
    go_wp2_with fail
    first
    | (go_region_law (first
        | (go_simp;go_at_call 99;(refine(y8 B p c.name _ R.o _ _ wr.drew Jo D.o E.o).mono ?_);rintro e b ⟨rfl,m⟩
           have y:=U (ad.o.trans (((D1 wr.heap.size wr).drew.trans m).mono O))
           clear m)))
    |fail
    all_goals go_wp2_with fail
    all_goals go_ret
    all_goals exact⟨zC (by rw[<-af.o,aS.o];simp),y.o⟩
   case inr.inl=>
    subst j;go_wp2_with fail
    first
    | (go_region_held3 (fun w'=>w'.cell? (w.heap.size,0)=some (.slice (some ⟨g,o,none⟩) p.wa.length S)/\w'.cell? (w.heap.size,1)=some (.slice aa p.funcs.length T)/\w'.cell? (g,o+i*2)=some (.string c.name))
        (first
          |(go_split_ands;refine⟨?_,?_,?_⟩ <;>(first|(rw[aw];assumption)|(rw[au];assumption)|(rw[I];assumption)|(rw[H];assumption)))
          |go_keep)
        (first
          | (go_at_call 99
             (refine(y8 B p c.name _ R.o _ _ wr.drew Jo D.o E.o).mono ?_)
             rintro e b ⟨rfl,m⟩;have d:Cx wr b:=Zb.drew.trans m;have I:∀x,b.cell? ⟨w.heap.size,x,none⟩=wr.cell? ⟨w.heap.size,x,none⟩:=fun x=>d.cell (p:=⟨w.heap.size,x,none⟩) J
             have H:∀x,b.cell? ⟨g,x,none⟩=wr.cell? ⟨g,x,none⟩:=fun x=>d.cell (p:=⟨g,x,none⟩) X
             have az:wr.heap.size<=b.heap.size:=d.size;have P:=U d;have aj:=U (D.o.below (m.mono (show B<=wr.heap.size by omega)) Zr);have am:=U (E.o.below (m.mono (show B<=wr.heap.size by omega)) Zr);have y:=U (ad.o.trans (d.mono O))
             clear m d)
          | (go_at_call 36
             (refine(js B p c.name _ C.o _ _ b O aj.o am.o).mono ?_)
             rintro e Z ⟨rfl,u⟩;have aw:∀x,Z.cell? ⟨w.heap.size,x,none⟩=wr.cell? ⟨w.heap.size,x,none⟩:=fun x=>(u.cell (p:=⟨w.heap.size,x,none⟩) Hr).trans (I x)
             have au:∀x,Z.cell? ⟨g,x,none⟩=wr.cell? ⟨g,x,none⟩:=fun x=>(u.cell (p:=⟨g,x,none⟩) (by show g<b.heap.size;omega)).trans (H x)
             have aC:=U (P.o.trans (u.mono az));have ap:=U (y.o.trans (u.mono y.o.size))
             clear u)))
    |fail
    go_wp2_with fail;go_ret
    have ag:yK p p.wa=true:=by
     cases hd:yK p p.wa with
     |true=>rfl
     |false=>
       have V:=((g6 p).1 hd i c M.o).2;have n:=C.o;rw[V]at n;simp only[ko]at n;omega
    exact⟨zC (by rw[<-af.o,ag];simp),ap.o⟩
   case inr.inr=>
    subst j;have n2:decide (0<=L)=false:=by simpa using N
    go_wp2_with fail
    first
    | (go_region_held3 (fun w'=>w'.cell? (w.heap.size,0)=some (.slice (some ⟨g,o,none⟩) p.wa.length S)/\w'.cell? (w.heap.size,1)=some (.slice aa p.funcs.length T)/\w'.cell? (g,o+i*2)=some (.string c.name))
        (first
          |(go_split_ands;refine⟨?_,?_,?_⟩ <;>(first|(rw[aw];assumption)|(rw[au];assumption)|(rw[I];assumption)|(rw[H];assumption)))
          |go_keep)
        (first
          | (go_at_call 99
             (refine(y8 B p c.name _ R.o _ _ wr.drew Jo D.o E.o).mono ?_)
             rintro e b ⟨rfl,m⟩;have d:Cx wr b:=Zb.drew.trans m;have I:∀x,b.cell? ⟨w.heap.size,x,none⟩=wr.cell? ⟨w.heap.size,x,none⟩:=fun x=>d.cell (p:=⟨w.heap.size,x,none⟩) J
             have H:∀x,b.cell? ⟨g,x,none⟩=wr.cell? ⟨g,x,none⟩:=fun x=>d.cell (p:=⟨g,x,none⟩) X
             have az:wr.heap.size<=b.heap.size:=d.size;have P:=U d;have aj:=U (D.o.below (m.mono (show B<=wr.heap.size by omega)) Zr);have am:=U (E.o.below (m.mono (show B<=wr.heap.size by omega)) Zr);have y:=U (ad.o.trans (d.mono O))
             clear m d)
          | (go_at_call 36
             (refine(js B p c.name _ C.o _ _ b O aj.o am.o).mono ?_)
             rintro e Z ⟨rfl,u⟩;have aw:∀x,Z.cell? ⟨w.heap.size,x,none⟩=wr.cell? ⟨w.heap.size,x,none⟩:=fun x=>(u.cell (p:=⟨w.heap.size,x,none⟩) Hr).trans (I x)
             have au:∀x,Z.cell? ⟨g,x,none⟩=wr.cell? ⟨g,x,none⟩:=fun x=>(u.cell (p:=⟨g,x,none⟩) (by show g<b.heap.size;omega)).trans (H x)
             have aC:=U (P.o.trans (u.mono az));have ap:=U (y.o.trans (u.mono y.o.size))
             clear u)))
    |fail
    go_wp2_with fail;go_roundw
    case rel=>
     refine⟨i+1,O,by go_num,fun k f s a=>?_,(aC.o.block w.heap.size J).trans aG.o,ap.o⟩;by_cases av:k=i
     .subst av
      rw[M.o]at a;injection a with a;subst a;have n:=R.o;have F:=C.o;refine⟨?_,?_⟩
      .cases h6:ze p.wa c.name with
       |none=>rw[h6]at n;simp[ko]at n
       |some q=>rw[h6]at n;simp only[ko]at n;exact congrArg some O
      .cases h6:qN p.funcs c.name with
       |none=>rfl
       |some q=>rw[h6]at F;simp only[ko]at F;omega
     .exact aO.o k f O a
    case measure=>simp[intOf];omega
  .have aI:yK p p.wa=false:=(g6 p).2 fun k f a=>A k f Xl a
   have aR:=U aI;clear A aI v l;go_wp2_with fail
   go_loopw [4] (fun iv t=>∃i:Nat,i<=p.funcs.length/\iv=.int .i64 i/\(∀(k:Nat) f,k<i->p.funcs[k]?=some f->qN p.funcs f.name=some k)/\t.heap[w.heap.size]?=some (qW ai p.wa.length S aa p.funcs.length T)/\Cx w t) (fun iv _=>p.funcs.length-(intOf iv).toNat)
   case atStart=>exact⟨0,Dw _,rfl,fun k f s=>absurd s O,aG.o,ad.o⟩
   case round=>
    obtain⟨t,rfl⟩:∃x,x=wr:=⟨_,rfl⟩
    obtain⟨i,aV,rfl,A,v,l⟩:=hrel;obtain⟨⟨a2,a3⟩,a4⟩:=zD v;have J:w.heap.size<t.heap.size:=zB v;have aP:=U A;have aH:=U v;have Q:=U l;by_cases aX:i<p.funcs.length
    .obtain⟨c,K⟩:∃e,p.funcs[i]?=some e:=⟨_,Dz aX⟩
     obtain⟨g,o,_,_,rfl,aK,aY,aN,aZ,a0,q4,a1⟩:=(ae.o.below (l.mono z) Zr).cells K;have X:g<t.heap.size:=O
     have M:=U K;have G:Cx t t.drew:=Zb.drew;have D:=U (ab.o.below ((l.trans (G.mono O)).mono z) Zr);have E:=U (ae.o.below ((l.trans (G.mono O)).mono z) Zr);obtain⟨L,Y⟩:=Cz (ko (qN p.funcs c.name));have C:=U Y;clear Y K v l A G aN aZ a0 q4 a1;have W:L≠(i:Int)\/L=(i:Int):=O
     rcases W with j|j
     all_goals
      first
      | (subst j
         have ak:=U (show qN p.funcs c.name=some i from by
          have F:=C.o;cases h6:qN p.funcs c.name with
          |none=>rw[h6]at F;simp only[ko]at F;omega
          |some q=>rw[h6]at F;simp only[ko]at F;exact congrArg some O))
      | (have ak:=U (show yV p.funcs=true from by
          cases hd:yV p.funcs with
          |true=>rfl
          |false=>
            have V:=mS.1 hd i c M.o;have n:=C.o;rw[V]at n
            exact absurd n.symm j)
         have n1:(L != (i:Int))=true:=by simp[j])
      go_wp2_with fail
      first
      | (go_region_held3 (fun w'=>w'.cell? (w.heap.size,0)=some (.slice ai p.wa.length S)/\w'.cell? (w.heap.size,1)=some (.slice (some ⟨g,o,none⟩) p.funcs.length T)/\w'.cell? (g,o+i*4)=some (.string c.name))
          (first
            |(go_split_ands;refine⟨?_,?_,?_⟩ <;>(first|(rw[I];assumption)|(rw[H];assumption)))
            |go_keep)
          (first
            | (go_at_call 36
               (refine(js B p c.name _ C.o _ _ t.drew (by show B<=t.heap.size;omega) D.o E.o).mono ?_)
               rintro e b ⟨rfl,m⟩;have d:Cx t b:=Zb.drew.trans m;have I:∀x,b.cell? ⟨w.heap.size,x,none⟩=t.cell? ⟨w.heap.size,x,none⟩:=fun x=>d.cell (p:=⟨w.heap.size,x,none⟩) J
               have H:∀x,b.cell? ⟨g,x,none⟩=t.cell? ⟨g,x,none⟩:=fun x=>d.cell (p:=⟨g,x,none⟩) X
               have P:=U d;have y:=U (Q.o.trans (d.mono O))
               clear m d)))
      |fail
      all_goals go_wp2_with fail
      all_goals first
       | (go_ret
          exact⟨zC (by rw[<-af.o,ak.o];simp),y.o⟩)
       | (go_roundw
          case rel=>
           refine⟨i+1,O,by go_num,fun k f s a=>?_,(P.o.block w.heap.size J).trans aH.o,y.o⟩;by_cases av:k=i
           .subst av
            rw[M.o]at a;injection a with a;subst a;exact ak.o
           .exact aP.o k f O a
          case measure=>simp[intOf];omega)
    .have aJ:yV p.funcs=false:=mS.2 fun k f a=>A k f Xl a
     have ax:B<=t.heap.size:=Dr z l.size;have aF:=U (show kd p=r by rw[<-af.o,aR.o,aJ];simp);have aB:=U (ab.o.below (l.mono z) Zr);have al:=U (ae.o.below (l.mono z) Zr);clear A v l aJ;cases s:qN p.funcs ⟨#[109,97,105,110]⟩with
     |none=>
       have an:=U (show ko (qN p.funcs ⟨#[109,97,105,110]⟩)= -1 by rw[s];rfl);have ao:=U (show kd p=false by unfold kd jN;rw[s];rfl);clear s;go_wp2_with (go_at_call 36;(with_reducible refine(js B p _ _ an.o _ _ _ Hs aB.o al.o).mono ?_);rintro e aA ⟨rfl,hb⟩);go_ret;exact⟨zC (by rw[<-aF.o,ao.o]),Q.o.trans (hb.mono Q.o.size)⟩
     |some k=>
       obtain⟨f,a,_,_⟩:=ye s;have an:=U (show ko (qN p.funcs ⟨#[109,97,105,110]⟩)=(k:Int)by rw[s];rfl);have ao:=U (show kd p=(decide (f.type=1)&&decide (f.params.length=0))by unfold kd jN;rw[s,Option.bind_some,a]);have aT:=U a;have a9:k<p.funcs.length:=(List.getElem?_eq_some_iff.1 a).1;clear s a;have W:f.type=1/\f.params.length=0\/f.type=1/\f.params.length≠0\/f.type≠1:=O
       rcases W with⟨j,N⟩|⟨j,N⟩|j
       all_goals
        have aD:=U j
        try have aE:=U N
        try clear N
        clear j
        go_wp2_with (go_at_call 36;(with_reducible refine(js B p _ _ an.o _ _ _ Hs aB.o al.o).mono ?_);rintro e aA ⟨rfl,hb⟩
                     have ay:=(hb.block w.heap.size J).trans aH.o;obtain⟨⟨_,_⟩,_⟩:=zD ay;have ba:w.heap.size<aA.heap.size:=zB ay;obtain⟨g,o,v2,v3,rfl,aK,_,a5,a6,_,hp,aU⟩:=(al.o.below (hb.mono ax) Zr).cells aT.o;obtain⟨_,_,rfl,_⟩:=hp.form;have X:g<aA.heap.size:=by have:=hb.size;omega
                     have aQ:=U (Q.o.trans (hb.mono Q.o.size))
                     try rw[aD.o]at a5
                     try rw[aE.o]at a6
                     clear hb ay hp aU)
        all_goals go_ret
        all_goals refine⟨zC ?_,aQ.o⟩
        all_goals
         rw[<-aF.o,ao.o];have a7:=aD.o
         try have a8:=aE.o
         simp_all
