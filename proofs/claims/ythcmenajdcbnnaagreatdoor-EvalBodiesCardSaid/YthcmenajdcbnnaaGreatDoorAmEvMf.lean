import Derived.Test.YthcmenajdcbnnaaGreatDoorAmEvCh
set_option linter.unusedSimpArgs false
set_option linter.unusedVariables false
set_option maxRecDepth 100000
set_option maxHeartbeats 99000000
namespace Go.Proofs.YthcmenajdcbnnaaGreatDoor
open Go.RowKit Tryz Go.Maps
variable{G:Gm}{τ:Nat->Lb}{w:C3}{m:Vm}{v vi vv pa vo:C4}{ty x:Int}{q l:List Int}{k t:Nat}
theorem T4(u:MW G τ w m){td:C2}{tc:List Ex}{tg th:List St}(i:oP G.B w v (.mk 1 ty td tc tg th))(y:m.v=q++[x])(_:q.length<=1000000000){c:Fr}{r:List Fr}(A:m.cs=c::r)(aa:td.size<=maxLen)(ab:c.vs.length<=2000000000):
 Cy 95 #[(G.b,0),v] w (g5 G w ⟨m.s,q,{ c with vs:=c.vs++[(td,x)] } :: r⟩ (.tuple #[])):=by
 have N:=U u;have R:=U y;have K:fS x:=by obtain⟨_,_,_,_,d⟩:=u;exact d.nv x Gq
 have S:=U K;have Q:=U i;have M:=U A;obtain⟨g,o,rfl,_,_⟩:=i.cells;clear u y K A i;go_enter func95,ntmps95
 go_upto_region 1 with(first
  | (go_at_call 96;(with_reducible refine(ke N.o R.o O).mono ?_);rintro e j ⟨rfl,⟨τ1,vi,vv,pa,vo,d⟩,t⟩
     obtain⟨_,_,f,_,_,_,_,_⟩:=(Q.o.below t Zr).cells;injection f with f;injection f with f;injection f with f T _;subst f T;have ag:=d.lt;have ae:g<j.heap.size:=by have:=d.hB;omega
     obtain⟨⟨_,_,_,_,_,_,_,_,_,_⟩,_⟩:=zD d.box;have C:=d.frs;rw[show(⟨m.s,q,m.cs⟩:Vm).cs=c::r from M.o]at C;obtain⟨a,_,_,mp,_,tm,_,rfl,n,I⟩:=C;obtain⟨⟨_,_,_,_,_⟩,_⟩:=zS n.box;have af:=zB n.box;have H:=U d;have p:=U n;have P:=U I;have L:=U t
     clear d n I t))
 go_wp2_with fail
 go_still_tail 12,(by kernel_rfl)
 repeat still_step
 change wpList _ _ _ _ _ j.drew;have Z:=U (p.o.map.2.wd (w':=j.drew) rfl)
 go_wp2_with (go_at_call 92;(refine(A8 Z.o ab td aa x).mono ?_);rintro e ad ⟨rfl,D,E,F,J⟩
              have l:=U (Dt D (Dt E (Dt ((fF.drew (fun k=>k=mp) j).trans F fun _ _ d=>d) J)))
              clear D E F J)
 go_end0
 have z:fF (fun k=>XD r.length (τ1 k)) j ad:=l.o.2.2.1.mono fun k _ (Y:k=mp)=>by
  rw[Y,p.o.map.1];exact .inr (.inr ⟨_,.inl rfl⟩)
 have V:=H.o.below (X:=XD r.length) z (lG _).1;have W:=p.o.decl V l.o.2.2.1 (td:=td) l.o.1 l.o.2.1 S.o;have i:=H.o.top rfl z (gO.lbl τ1 j _ Zr) P.o W;exact⟨rfl,⟨_,_,_,_,_,i.1⟩,L.o.trans i.2⟩
theorem T5(z:MW G τ w m){td:C2}{tc:List Ex}{tg th:List St}(p:oP G.B w v (.mk 2 ty td tc tg th))(A:m.v=q++[x])(_:q.length<=1000000000){c:Fr}{r:List Fr}(F:m.cs=c::r)(ae:td.size<=maxLen){j:Nat}(K:ja c.vs td=some j):
 Cy 95 #[(G.b,0),v] w (g5 G w ⟨m.s,q,{ c with vs:=xH c.vs td x } :: r⟩ (.tuple #[])):=by
 have V:=U z;have Z:=U A;have N:fS x:=by obtain⟨_,_,_,_,f⟩:=z;exact f.nv x (by rw[A];exact Y3 _ (List.mem_singleton.2 rfl))
 have aa:=U N;have Y:=U p;have R:=U F;have C:=U K;obtain⟨g,o,rfl,_,_⟩:=p.cells;clear z A N F p K;go_enter func95,ntmps95
 go_upto_region 1 with(first
  | (go_at_call 96;(with_reducible refine(ke V.o Z.o O).mono ?_);rintro e d ⟨rfl,⟨τ1,vi,vv,pa,vo,f⟩,y⟩
     obtain⟨_,_,l,_,_,_,_,_⟩:=(Y.o.below y Zr).cells;injection l with l;injection l with l;injection l with l ab _;subst l ab;have an:=f.lt;have ak:g<d.heap.size:=by have:=f.hB;omega
     obtain⟨⟨_,_,_,_,_,_,_,_,_,_⟩,_⟩:=zD f.box;have J:=f.frs;rw[show(⟨m.s,q,m.cs⟩:Vm).cs=c::r from R.o]at J;obtain⟨a,_,_,mp,_,tm,_,rfl,n,M⟩:=J;obtain⟨⟨_,_,_,_,_⟩,_⟩:=zS n.box;have al:=zB n.box;obtain⟨b,ag,E,af,I,L,u,_,_⟩:=n.var C.o
     have am:(Instr.lookup 163 (.map (some mp)) (.string td) false).run Tryz.prog d.drew=.ok (.pointer (some ⟨b,0,none⟩)) d.drew:=by
      have:=(n.map.2.wd (w':=d.drew) rfl).look (t:=163) underlying163 (tY _) ae;rw[I]at this;exact this
     have ah:d.cell? (b,0)=some (.int .i64 ag.2):=(Du u 0).trans rfl;have ai:=zB u;have aj:∀i,d.frozen? ⟨b,i,none⟩=false:=fun i=>by simp[World.frozen?,u]
     have H:=U f;have S:=U n;have W:=U M;have Q:=U y;have P:=U E;have T:=U L
     clear f n M y E af I L u))
 go_wp2_with fail
 go_still_tail 14,(by kernel_rfl)
 repeat still_step
 change wpList _ _ _ _ _ d.drew;go_wp2_with fail
 go_end0
 have D:fF (fun k=>XD r.length (τ1 k)) d (d.setCell (b,0) (x:Int)):=fF.set (X:=fun k=>XD r.length (τ1 k)) d (by show XD r.length (τ1 b);rw[T.o];exact .inr (.inr ⟨_,.inr rfl⟩)) 0 _;have ad:=H.o.below (X:=XD r.length) D (lG _).1;have p:=H.o.top rfl D (gO.refl τ1 d) W.o (S.o.setv C.o P.o ad aa.o);exact⟨rfl,⟨_,_,_,_,_,p.1.drew⟩,Q.o.trans p.2.drew⟩
theorem T6{p:Pr}{b:List Nat}{a:List (List Int)}(c:a[k]?=some l)(i:Nat)(n:Int)(s:C2):IU p b (a.set k (l.set i n)) s=IU p b a s:=by
 unfold IU;cases zZ p.wa s with
 |none=>rfl
 |some z=>
   show AP (b.getD z 0,(a.set k (l.set i n)).getD z [])=AP (b.getD z 0,a.getD z []);unfold AP;dsimp only
   have:((a.set k (l.set i n)).getD z []).length=(a.getD z []).length:=by
    rw[Yl,Yl,Cg];by_cases d:k=z
    .subst d
     rw[Dq rfl,Dq (List.getElem?_eq_some_iff.1 c).1,c];simp
    .rw[Dp d]
   rw[this]
theorem gC.put(a:gC G τ w m vi vv pa vo){q:List Nat}(f:tA G τ w m.s.arr q){g:Nat}(D:q[k]?=some g)(u:m.s.arr[k]?=some l)(K:w.heap[g]?=some (oJ l)){i:Nat}(_:i<l.length){n:Int}(M:fS n):
 gC G τ (w.setCell (g,i) (n:Int)) ⟨{ m.s with arr:=m.s.arr.set k (l.set i n) },m.v,m.cs⟩ vi vv pa vo/\Below G.B w (w.setCell (g,i) (n:Int)):=by
 obtain⟨I,_,Q,q4⟩:=f.row k g l D u;have L:=(List.getElem?_eq_some_iff.1 u).1;have c:fF (fun y=>(fun x=>x=Lb.arr k) (τ y)) w (w.setCell (g,i) (n:Int)):=fF.set (X:=fun y=>(fun x=>x=Lb.arr k) (τ y)) w I i _;have j:=gO.refl τ w;have C:=a.below (X:=fun x=>x=Lb.arr k) c Ui
 refine a.step (X:=fun x=>x=Lb.arr k) (m':=⟨{ m.s with arr:=m.s.arr.set k (l.set i n) },m.v,m.cs⟩) c j Ui ⟨Ui,Ui⟩ (kb (X:=fun x=>x=Lb.arr k) c j a.lab Ui a.box).2 (a.inp.below C Zr) (a.val.keep (X:=fun x=>x=Lb.arr k) c j Ui) (a.o.keep (X:=fun x=>x=Lb.arr k) c j Ui)
  (a.frs.keep (X:=fun x=>x=Lb.arr k) c j C ⟨Ui,fun d _=>⟨Ui,Ui,fun i=>⟨Ui,Ui⟩⟩⟩ Zr) ⟨q,?_⟩ a.nv a.ni a.no a.lim
 obtain⟨P,E⟩:=f.map;refine⟨f.lab,by show(m.s.arr.set _ _).length=_;rw[Yw];exact f.len,by show q.length=(m.s.arr.set _ _).length;rw[Yw];exact f.rl,⟨P,(E.wd (c.block _ E.lt (by rw[f.lab];intro e;cases e))).congr fun s=>T6 u i n s⟩,fun A J H p b=>?_⟩;have b:(m.s.arr.set k (l.set i n))[A]?=some H:=b;rw[Cg]at b;by_cases t:k=A
 .subst t
  rw[Dq rfl,Dq L]at b;injection b with b;subst b;rw[D]at p;injection p with p;subst p;refine⟨I,?_,fun z N=>?_,by rw[Yw];exact q4⟩
  .rw[D3 K _]
   congr 2;apply Array.ext';simp
  .rcases Cu N with r|r
   .exact Q z r
   .rw[r];exact M
 .rw[Dp t]at b
  obtain⟨R,S,T,V⟩:=f.row A J H p b;have F:=kb (X:=fun x=>x=Lb.arr k) c j R (by intro e;injection e with e;exact t e.symm) S;exact⟨F.1,F.2,T,V⟩
theorem DG(r:MW G τ w m){td:C2}{tc:List Ex}{tg th:List St}(u:oP G.B w v (.mk 3 ty td tc tg th))(y:m.v=q++[x])(T:q.length<=1000000000){i:Int}{C:List Int}(t:q=C++[i])(S:zZ G.p.wa td=some k)(V:m.s.arr[k]?=some l)(aE:td.size<=maxLen)(aC:m.s.cost+1+m.s.fuel<=1000000000)(Q:0<=i/\i<(l.length:Int)):
 Cy 95 #[(G.b,0),v] w (g5 G w ⟨{ zV m.s with arr:=m.s.arr.set k (l.set i.toNat x) },C,m.cs⟩ (.tuple #[])):=by
 have ah:=U r;have ak:=U y;have aa:fS x:=by obtain⟨_,_,_,_,a⟩:=r;exact a.nv x Gq
 have al:=U aa;have aj:=U u;have ai:=U t;have ag:=U S;have F:=U V;have E:=U Q;have aD:C.length<=2000000000:=by rw[t]at T;simp at T;omega
 clear t S V Q;obtain⟨g,o,rfl,_,_⟩:=u.cells;clear r y aa u;go_enter func95,ntmps95
 go_upto_region 1 with(first
  | (go_at_call 96;(with_reducible refine(ke ah.o ak.o O).mono ?_);rintro e d ⟨rfl,⟨τ1,vi,vv,pa,vo,a⟩,j⟩
     obtain⟨_,_,c,_,L,aA,M,_⟩:=(aj.o.below j Zr).cells;injection c with c;injection c with c;injection c with c az _;subst c az;have aO:=a.lt;have aI:=a.hBb;have aM:g<d.heap.size:=Uz
     obtain⟨⟨am,an,ao,ap,aq,ar,au,av,aw,ax⟩,ay⟩:=zD a.box;have H:=U a;have ae:=U j
     clear a j))
 have aQ:IntKind.i64.wrap ((m.s.cost:Int)+1)=(m.s.cost:Int)+1:=Un
 have aB:g≠G.b:=O
 have aP:G.b≠g:=O
 have Y:=H.o.pay aC;have J:=U Y;have aF:=U H.o.paid;have A:(d.setCell (G.b,8) (((m.s.cost:Int)+1):Int)).heap.size=d.heap.size:=Uk
 have n:∀i,(d.setCell (G.b,8) (((m.s.cost:Int)+1):Int)).cell? ⟨g,i,none⟩=d.cell? ⟨g,i,none⟩:=fun i=>D6 (Dw d ⟨G.b,8,none⟩ (.int .i64 ((m.s.cost:Int)+1)) g aB)
 have aG:=(n o).trans L;have aH:=(n (o+2)).trans M;clear Y n;go_upto_region 8 with fail;have aS:=Dv A;have aR:=Dv A.symm;generalize d.setCell (G.b,8) (((m.s.cost:Int)+1):Int)=W at *;clear A am an ao ap aq ar au av aw ax ay L aA M;have aK:g<W.heap.size:=O
 go_wp2_with (first
  | (go_at_call 115;(refine(A7 (m:=⟨zV m.s,q,m.cs⟩) ⟨_,_,_,_,J.o.1⟩ ai.o aD ag.o F.o aE E.o).mono ?_)
     rintro e ad ⟨K,τ3,_,_,_,_,_,rfl,X,N,Z,f,P⟩;have R:i.toNat<l.length:=by have:=E.o;omega
     obtain⟨D,ab⟩:∃D,l[i.toNat]?=some D:=⟨_,Dy R⟩
     have aJ:ad.cell? (K,i.toNat)=some (.int .i64 D):=(Du f i.toNat).trans (by simp[ab]);have aN:∀z,ad.frozen? ⟨K,z,none⟩=false:=fun z=>by simp[World.frozen?,f]
     have aL:=zB f;have I:=U (X.put N Z F.o f R al.o);have af:=U P
     clear X N Z f P ab))
 go_end0
 exact⟨rfl,⟨_,_,_,_,_,I.o.1⟩,((ae.o.trans J.o.2).trans af.o).trans I.o.2⟩
theorem GW(n:MW G τ w m){td:C2}{tc:List Ex}{tg th:List St}(t:oP G.B w v (.mk 3 ty td tc tg th))(u:m.v=q++[x])(F:q.length<=1000000000){i:Int}{L:List Int}(r:q=L++[i])(E:zZ G.p.wa td=some k)(I:m.s.arr[k]?=some l)(aq:td.size<=maxLen)(ao:m.s.cost+1+m.s.fuel<=1000000000)(D:¬(0<=i/\i<(l.length:Int))):
 Cy 95 #[(G.b,0),v] w (ya G w none (kQ (zV m.s) 3)):=by
 have R:=U n;have V:=U u;have K:fS x:=by obtain⟨_,_,_,_,a⟩:=n;exact a.nv x (by rw[u];exact Y3 _ (List.mem_singleton.2 rfl))
 have au:=U K;have T:=U t;have S:=U r;have P:=U E;have Q:=U I;have N:=U D;have ap:L.length<=2000000000:=by rw[r]at F;simp at F;omega
 clear r E I D;obtain⟨g,o,rfl,_,_⟩:=t.cells;clear n u K t;go_enter func95,ntmps95
 go_upto_region 1 with(first
  | (go_at_call 96;(with_reducible refine(ke R.o V.o O).mono ?_);rintro e d ⟨rfl,⟨τ1,vi,vv,pa,vo,a⟩,f⟩
     obtain⟨_,_,c,_,A,ak,C,_⟩:=(T.o.below f Zr).cells;injection c with c;injection c with c;injection c with c aj _;subst c aj;have aA:=a.lt;have ax:=a.hBb;have az:g<d.heap.size:=Uz
     obtain⟨⟨X,Y,Z,aa,ab,ad,ae,af,ag,ah⟩,ai⟩:=zD a.box;have H:=U a;have M:=U f
     clear a f))
 have aC:IntKind.i64.wrap ((m.s.cost:Int)+1)=(m.s.cost:Int)+1:=Un
 have an:g≠G.b:=O
 have aB:G.b≠g:=O
 have J:=H.o.pay ao;have z:=U J;have ar:=U H.o.paid;have y:(d.setCell (G.b,8) (((m.s.cost:Int)+1):Int)).heap.size=d.heap.size:=Uk
 have j:∀i,(d.setCell (G.b,8) (((m.s.cost:Int)+1):Int)).cell? ⟨g,i,none⟩=d.cell? ⟨g,i,none⟩:=fun i=>D6 (Dw d ⟨G.b,8,none⟩ (.int .i64 ((m.s.cost:Int)+1)) g an)
 have av:=(j o).trans A;have aw:=(j (o+2)).trans C;clear J j;go_upto_region 8 with fail;have aE:=Dv y;have aD:=Dv y.symm;generalize d.setCell (G.b,8) (((m.s.cost:Int)+1):Int)=W at *;clear y X Y Z aa ab ad ae af ag ah ai A ak C;have ay:g<W.heap.size:=O
 go_wp2_with (first
  | (go_at_call 115;(refine(FW (m:=⟨zV m.s,q,m.cs⟩) ⟨_,_,_,_,z.o.1⟩ S.o ap P.o Q.o aq N.o).mono ?_)
     rintro e _ ⟨rfl,am,al⟩
     exact⟨rfl,rfl,am,(M.o.trans z.o.2).trans al⟩))
theorem JK(y:MW G τ w m){td:C2}{tc:List Ex}{tg th:List St}(A:oP G.B w v (.mk 9 ty td tc tg th))(C:m.v=q++[x])(_:q.length<=1000000000)(au:m.s.cost+1+m.s.fuel<=1000000000):
 Cy 95 #[(G.b,0),v] w (g5 G w ⟨{ zV m.s with o:=m.s.o++[x] },q,m.cs⟩ (.tuple #[])):=by
 have X:=U y;have ab:=U C;have Q:fS x:=by obtain⟨_,_,_,_,a⟩:=y;exact a.nv x (by rw[C];exact Y3 _ (List.mem_singleton.2 rfl))
 have aw:=U Q;have aa:=U A;obtain⟨g,o,rfl,_,_⟩:=A.cells;clear y C Q A;go_enter func95,ntmps95
 go_upto_region 1 with(first
  | (go_at_call 96;(with_reducible refine(ke X.o ab.o O).mono ?_);rintro e d ⟨rfl,⟨τ1,vi,vv,pa,vo,a⟩,t⟩
     obtain⟨_,_,c,_,J,aq,K,_⟩:=(aa.o.below t Zr).cells;injection c with c;injection c with c;injection c with c ap _;subst c ap;have aF:=a.lt;have aA:=a.hBb;have aE:g<d.heap.size:=Uz
     obtain⟨⟨ad,ae,af,ag,ah,ai,aj,ak,al,am⟩,an⟩:=zD a.box;have H:=U a;have V:=U t
     clear a t))
 have aJ:IntKind.i64.wrap ((m.s.cost:Int)+1)=(m.s.cost:Int)+1:=Un
 have ar:g≠G.b:=O
 have aH:G.b≠g:=O
 have N:=H.o.pay au;have j:=U N;have F:=U H.o.paid;have D:(d.setCell (G.b,8) (((m.s.cost:Int)+1):Int)).heap.size=d.heap.size:=Uk
 have u:∀i,(d.setCell (G.b,8) (((m.s.cost:Int)+1):Int)).cell? ⟨g,i,none⟩=d.cell? ⟨g,i,none⟩:=fun i=>D6 (Dw d ⟨G.b,8,none⟩ (.int .i64 ((m.s.cost:Int)+1)) g ar)
 have ax:=(u o).trans J;have ay:=(u (o+2)).trans K;clear N u;go_upto_region 11 with fail;have aL:=Dv D;have aK:=Dv D.symm;generalize d.setCell (G.b,8) (((m.s.cost:Int)+1):Int)=W at *;clear D ad ae af ag ah ai aj ak al am an J aq K;have aD:g<W.heap.size:=O
 obtain⟨⟨_,_,_,_,_,_,_,ao,_,_⟩,_⟩:=zD F.o;have aG:G.b<W.heap.size:=zB F.o;obtain⟨av,M,R,S,T⟩:=info_parts kX;have l:=U (Dt M (Dt R (Dt S T)));obtain⟨p,r,f⟩:=j.o.1.o.form;have f:vo=.slice p m.s.o.length r:=f;rw[f]at ao;have I:=U f;have aI:m.s.o.length<=1000000000:=by have:=H.o.no;have az:m.s.o.length<=m.s.cost:=this;omega
 have aB:G.B<=W.heap.size:=j.o.1.hB;have Z:=C0 ((W.alloc (.cells #[(x:Int)] 3)).ownsRow G.B 3 1 (.slice p m.s.o.length r) m.s.o.length (m.s.o.map (Value.int .i64))) (f▸qR j.o.1.o.1 ((D4 W.heap.size W).alloc Zr _) Zr);have Y:=U (jU W [.int .i64 x] 3);clear M R S T f
 go_wp2_with (at_builtin;refine qJ rfl (.tmp 77) (.tmp 79) _ rfl G.B 3 av _ 1 8 underlying23 l.o.1 l.o.2.1 l.o.2.2.1 l.o.2.2.2 rfl O (.slice p m.s.o.length r) m.s.o.length _ rfl (by exact Z.o) ⟨W.heap.size,0,none⟩ 1 1 [.int .i64 x] rfl rfl (by exact Y.o) Um Ul O Ug O ?_
              intro _ w8 z L P;obtain⟨_,_,rfl⟩:=zY z;have k:=j.o.1.print (n:=x) ((D4 W.heap.size W).alloc Zr (.cells #[(x:Int)] 3)) (by rw[I.o];exact L) (by rw[I.o];exact P) z (Nat.succ_le_succ H.o.no);have E:=U (Dt k.2.1 k.2.2);obtain⟨⟨_,_,_,_,_,_,_,_,_,_⟩,_⟩:=zD k.1;have aC:G.b<w8.heap.size:=zB k.1
              clear z L P k)
 go_end0
 exact⟨rfl,E.o.1,(V.o.trans j.o.2).trans E.o.2⟩
theorem YC(f:MW G τ w m){td:C2}{tc:List Ex}{tg th:List St}(i:oP G.B w v (.mk 10 ty td tc tg th))(j:m.v=q++[x])(_:q.length<=1000000000):
 Cy 95 #[(G.b,0),v] w (g5 G w ⟨m.s,q,m.cs⟩ (.tuple #[])):=by
 have n:=U f;have r:=U j;have k:fS x:=by obtain⟨_,_,_,_,a⟩:=f;exact a.nv x (by rw[j];exact Y3 _ (List.mem_singleton.2 rfl))
 have y:=U k;have p:=U i;obtain⟨g,o,rfl,_,_⟩:=i.cells;clear f j k i;go_enter func95,ntmps95
 go_upto_region 1 with(first
  | (go_at_call 96;(with_reducible refine(ke n.o r.o O).mono ?_);rintro e u ⟨rfl,⟨τ1,vi,vv,pa,vo,a⟩,d⟩
     obtain⟨_,_,c,_,_,_,_,_⟩:=(p.o.below d Zr).cells;injection c with c;injection c with c;injection c with c t _;subst c t;have C:=a.lt;have z:=a.hBb;have A:g<u.heap.size:=Uz
     obtain⟨⟨_,_,_,_,_,_,_,_,_,_⟩,_⟩:=zD a.box;have H:=U a;have l:=U d
     clear a d))
 go_wp2_with fail
 go_end0
 exact⟨rfl,⟨_,_,_,_,_,H.o⟩,l.o⟩
theorem DH(i:MW G τ w m){td:C2}{tc:List Ex}{tg th:List St}(j:oP G.B w v (.mk 8 ty td tc tg th))(k:m.v=q++[x])(_:q.length<=1000000000){c:Fr}(l:m.cs=[c]):
 Cy 95 #[(G.b,0),v] w (ya G w (some x) m.s):=by
 have t:=U i;have y:=U k;have n:fS x:=by obtain⟨_,_,_,_,a⟩:=i;exact a.nv x Gp
 have E:=U n;have u:=U j;have r:=U l;clear l;obtain⟨g,o,rfl,_,_⟩:=j.cells;clear i k n j;go_enter func95,ntmps95
 go_upto_region 1 with(first
  | (go_at_call 96;(with_reducible refine(ke t.o y.o O).mono ?_);rintro e D ⟨rfl,⟨τ1,vi,vv,pa,vo,a⟩,f⟩
     obtain⟨_,_,d,_,_,_,_,_⟩:=(u.o.below f Zr).cells;injection d with d;injection d with d;injection d with d z _;subst d z;have J:=a.lt;have F:=a.hBb;have I:g<D.heap.size:=Uz
     obtain⟨⟨_,_,_,_,_,_,_,_,_,_⟩,_⟩:=zD a.box;have H:=U a;have p:=U f
     clear a f))
 go_wp2_with (first
  | (go_at_call 117;(refine(IX (m:=⟨m.s,q,m.cs⟩) ⟨_,_,_,_,H.o⟩ r.o x).mono ?_)
     rintro e _ ⟨rfl,C,A⟩
     exact⟨rfl,rfl,C,p.o.trans A⟩))
theorem GX(j:MW G τ w m){td:C2}{tc:List Ex}{tg th:List St}(k:oP G.B w v (.mk 8 ty td tc tg th))(l:m.v=q++[x])(_:q.length<=1000000000){c d:Fr}{r:List Fr}(p:m.cs=c::d::r):
 Cy 95 #[(G.b,0),v] w (g5 G w ⟨m.s,q++[x],d::r⟩ (.tuple #[])):=by
 have C:=U j;have F:=U l;have u:fS x:=by obtain⟨_,_,_,_,a⟩:=j;exact a.nv x (by rw[l];exact Y3 _ (List.mem_singleton.2 rfl))
 have I:=U u;have E:=U k;have A:=U p;clear p;obtain⟨g,o,rfl,_,_⟩:=k.cells;clear j l u k;go_enter func95,ntmps95
 go_upto_region 1 with(first
  | (go_at_call 96;(with_reducible refine(ke C.o F.o O).mono ?_);rintro e K ⟨rfl,⟨τ1,vi,vv,pa,vo,a⟩,i⟩
     obtain⟨_,_,f,_,_,_,_,_⟩:=(E.o.below i Zr).cells;injection f with f;injection f with f;injection f with f J _;subst f J;have N:=a.lt;have L:=a.hBb;have M:g<K.heap.size:=Uz
     obtain⟨⟨_,_,_,_,_,_,_,_,_,_⟩,_⟩:=zD a.box;have H:=U a;have y:=U i
     clear a i))
 go_wp2_with (first
  | (go_at_call 117;(refine(N2 (m:=⟨m.s,q,m.cs⟩) ⟨_,_,_,_,H.o⟩ A.o x I.o Xw).mono ?_)
     rintro e _ ⟨rfl,t,n⟩;have D:=U t;have z:=U n
     clear t n))
 go_end0
 exact⟨rfl,D.o,y.o.trans z.o⟩
def DI(G:Gm)(w:C3)(x:VR)(e:Ending)(w':C3):Prop:=match x with
 |.go m=>g5 G w m (.tuple #[]) e w'
 |.stop c t=>ya G w c t e w'
 |.bad=>True
theorem gC.fetch(f:gC G τ w m vi vv pa vo){c:Fr}{r:List Fr}(P:m.cs=c::r){x:fO}(F:c.code[c.pl]?=some x):
 ∃a g n q u mp y j l o p,pa=.pointer (some ⟨a,0,none⟩)/\w.heap[a]?=some (FSq (.slice (some ⟨g,0,none⟩) n q) c.pl mp y u)/\c.pl<n/\n<=281474976710656/\g<w.heap.size/\τ g=.code/\g≠a/\g≠G.b/\a≠G.b/\G.B<=a/\oQ G.B w x j l o p/\
   (w.cell? (g,c.pl*4)=some j/\w.cell? (g,c.pl*4+1)=some l/\w.cell? (g,c.pl*4+2)=some o/\w.cell? (g,c.pl*4+3)=some p)/\
   gC G τ (w.setCell (a,1) (((c.pl:Int)+1):Int)) ⟨m.s,m.v,{ c with pl:=c.pl+1 } :: r⟩ vi vv pa vo/\Below G.B w (w.setCell (a,1) (((c.pl:Int)+1):Int)):=by
 have C:=f.frs;rw[P]at C;obtain⟨a,u,_,mp,y,tm,_,D,d,Z⟩:=C;obtain⟨_,q,rfl,W,Q⟩:=d.code;have Y:=(List.getElem?_eq_some_iff.1 F).1;obtain⟨g,rfl,i,T,R⟩:=Q O;obtain⟨j,l,o,p,V,H,I,J,K⟩:=R _ _ F;have S:g≠a:=fun e=>by rw[e,d.lab]at i;cases i
 have M:a≠G.b:=fun e=>by have:=d.lab;rw[e,f.lab]at this;cases this
 have L:G.B<=a:=by
  rcases Ce a G.B with t|t
  .have:=f.old _ t
   rw[d.lab]at this;cases this
  .exact t
 have z:fF (fun k=>XD r.length (τ k)) w (w.setCell (a,1) (((c.pl+1 :Nat):Int):Int)):=fF.set (X:=fun k=>XD r.length (τ k)) w (.inl d.lab) 1 _;have N:=f.below (X:=XD r.length) z (lG _).1;have E:=f.top D z (gO.refl τ w) Z (d.place N);exact⟨a,g,c.code.length,q,u,mp,y,j,l,o,p,D,d.box,Y,W,T,i,S,(fun e=>by rw[e,f.lab]at i;cases i),M,L,V,⟨H,I,J,K⟩,E.1,E.2⟩
theorem gC.same{w':C3}(b:gC G τ w m vi vv pa vo)(a:w'.heap=w.heap)(c:w'.os=w.os)(d:w'.tape=w.tape)(e:w'.output=w.output):gC G τ w' m vi vv pa vo:=
 b.we ⟨c,d,e,by rw[a];exact D0 _,fun k _=>by rw[a]⟩
theorem qH{B:Nat}{a w':C3}(c:Below B a w)(b:w'.heap=w.heap)(d:w'.os=w.os)(e:w'.tape=w.tape)(f:w'.output=w.output):Below B a w':=
 c.trans ⟨d,e,f,by rw[b];exact D0 _,fun k _=>by rw[b]⟩
theorem OX(aE:MW G τ w m){c:Fr}{r:List Fr}(am:m.cs=c::r){e:Ex}{x:VR}(aF:x≠.bad)(al:∀τ (W:C3) v,MW G τ W ⟨m.s,m.v,{ c with pl:=c.pl+1 } :: r⟩->pK G.B W v e->Cy 94 #[(G.b,0),v] W (DI G W x))(ao:c.code[c.pl]?=some (.app e)):
 Cy 70 #[(G.b,0)] w (DI G w x):=by
 obtain⟨vi,vv,pa,vo,q⟩:=aE;obtain⟨a,g,n,_,_,mp,_,_,_,_,_,rfl,I,_,_,_,_,an,aB,az,_,aC,⟨C,D,E,F⟩,ak,H⟩:=q.fetch am ao;obtain⟨⟨P,Q,R,S,T,V,X,Y,Z,aa⟩,ab⟩:=zD q.box;obtain⟨⟨ad,ae,af,ag,ah⟩,ai⟩:=zS I;have aQ:=q.lt;have aP:=zB I;have aR:(c.pl:Int)<(n:Int):=O
 have aS:IntKind.i64.wrap ((c.pl:Int)+1)=(c.pl:Int)+1:=Un
 have aM:a≠g:=fun e=>an e.symm
 have aN:G.b≠a:=fun e=>az e.symm
 have aO:G.b≠g:=fun e=>aB e.symm
 have f:∀i,(w.setCell (a,1) (((c.pl:Int)+1):Int)).cell? ⟨g,i,none⟩=w.cell? ⟨g,i,none⟩:=fun i=>D6 (Dw w _ _ g an)
 have j:=(f (c.pl*4)).trans C;have k:=(f (c.pl*4+1)).trans D;have l:=(f (c.pl*4+2)).trans E;have p:=(f (c.pl*4+3)).trans F;obtain⟨rfl,rfl,J,rfl⟩:=aC;have aL:=C0 (True) trivial;have K:=U ak;have M:=U H;have d:(w.setCell (a,1) (((c.pl:Int)+1):Int)).heap.size=w.heap.size:=Uk
 have N:=U (J.below H Zr);have L:=U al;obtain⟨aj,op,rfl,_⟩:=id J;clear J al;clear q am ao ak H I f;rcases x with aI|⟨ar,aJ⟩|_
 .show Calls _ _ _ _ (g5 G w aI (.tuple #[]))
  go_enter func70,ntmps70;go_wp2_with fail
  go_quiet (fail)
  go_upto_region 3 with fail;have A:=U (K.o.same (w':=(w.drewN nq).setCell ⟨a,1,none⟩ (((c.pl:Int)+1):Int)) rfl rfl rfl rfl);have y:=U (qH M.o (w':=(w.drewN nq).setCell ⟨a,1,none⟩ (((c.pl:Int)+1):Int)) rfl rfl rfl rfl);have z:=C0 (pK G.B ((w.drewN nq).setCell (a,1) (((c.pl:Int)+1):Int)) (.pointer (some ⟨aj,op,none⟩)) e) (N.o.below (qH Zb rfl rfl rfl rfl) Zr);have au:((w.drewN nq).setCell (a,1) (((c.pl:Int)+1):Int)).cell? (g,c.pl*4)=_:=j;have av:((w.drewN nq).setCell (a,1) (((c.pl:Int)+1):Int)).cell? (g,c.pl*4+1)=_:=k;have aw:((w.drewN nq).setCell (a,1) (((c.pl:Int)+1):Int)).cell? (g,c.pl*4+2)=_:=l;have ax:((w.drewN nq).setCell (a,1) (((c.pl:Int)+1):Int)).cell? (g,c.pl*4+3)=_:=p;have aG:((w.drewN nq).setCell (a,1) (((c.pl:Int)+1):Int)).heap.size<=w.heap.size:=Dv d;have aH:w.heap.size<=((w.drewN nq).setCell (a,1) (((c.pl:Int)+1):Int)).heap.size:=Dv d.symm;clear j k l p d P Q R S T V X Y Z aa ab ad ae af ag ah ai C D E F;generalize(w.drewN nq).setCell (a,1) (((c.pl:Int)+1):Int)=W at *;have aA:g<W.heap.size:=O
  have aD:G.b<W.heap.size:=O
  have ay:a<W.heap.size:=O
  go_wp2_with (first
   | (go_at_call 94;(refine(L.o τ W _ ⟨_,_,_,_,A.o⟩ z.o).mono ?_);rintro e aK ⟨rfl,u,t⟩
      have aq:=U u;have ap:=U t
      clear u t))
  go_end0
  exact⟨rfl,aq.o,y.o.trans ap.o⟩
 .show Calls _ _ _ _ (ya G w ar aJ)
  go_enter func70,ntmps70;go_wp2_with fail
  go_quiet (fail)
  go_upto_region 3 with fail;have A:=U (K.o.same (w':=(w.drewN nq).setCell ⟨a,1,none⟩ (((c.pl:Int)+1):Int)) rfl rfl rfl rfl);have y:=U (qH M.o (w':=(w.drewN nq).setCell ⟨a,1,none⟩ (((c.pl:Int)+1):Int)) rfl rfl rfl rfl);have z:=C0 (pK G.B ((w.drewN nq).setCell (a,1) (((c.pl:Int)+1):Int)) (.pointer (some ⟨aj,op,none⟩)) e) (N.o.below (qH Zb rfl rfl rfl rfl) Zr);have au:((w.drewN nq).setCell (a,1) (((c.pl:Int)+1):Int)).cell? (g,c.pl*4)=_:=j;have av:((w.drewN nq).setCell (a,1) (((c.pl:Int)+1):Int)).cell? (g,c.pl*4+1)=_:=k;have aw:((w.drewN nq).setCell (a,1) (((c.pl:Int)+1):Int)).cell? (g,c.pl*4+2)=_:=l;have ax:((w.drewN nq).setCell (a,1) (((c.pl:Int)+1):Int)).cell? (g,c.pl*4+3)=_:=p;have aG:((w.drewN nq).setCell (a,1) (((c.pl:Int)+1):Int)).heap.size<=w.heap.size:=Dv d;have aH:w.heap.size<=((w.drewN nq).setCell (a,1) (((c.pl:Int)+1):Int)).heap.size:=Dv d.symm;clear j k l p d P Q R S T V X Y Z aa ab ad ae af ag ah ai C D E F;generalize(w.drewN nq).setCell (a,1) (((c.pl:Int)+1):Int)=W at *;have aA:g<W.heap.size:=O
  have aD:G.b<W.heap.size:=O
  have ay:a<W.heap.size:=O
  go_wp2_with (first
   |(go_at_call 94;(refine(L.o τ W _ ⟨_,_,_,_,A.o⟩ z.o).mono ?_);rintro e aK ⟨rfl,u,t⟩;exact⟨rfl,rfl,u,y.o.trans t⟩))
 .exact absurd rfl aF
theorem OY(aE:MW G τ w m){c:Fr}{r:List Fr}(am:m.cs=c::r){e:St}{x:VR}(aF:x≠.bad)(al:∀τ (W:C3) v,MW G τ W ⟨m.s,m.v,{ c with pl:=c.pl+1 } :: r⟩->oP G.B W v e->Cy 95 #[(G.b,0),v] W (DI G W x))(ao:c.code[c.pl]?=some (.fin e)):
 Cy 70 #[(G.b,0)] w (DI G w x):=by
 obtain⟨vi,vv,pa,vo,q⟩:=aE;obtain⟨a,g,n,_,_,mp,_,_,_,_,_,rfl,I,_,_,_,_,an,aB,az,_,aC,⟨C,D,E,F⟩,ak,H⟩:=q.fetch am ao;obtain⟨⟨P,Q,R,S,T,V,X,Y,Z,aa⟩,ab⟩:=zD q.box;obtain⟨⟨ad,ae,af,ag,ah⟩,ai⟩:=zS I;have aQ:=q.lt;have aP:=zB I;have aR:(c.pl:Int)<(n:Int):=O
 have aS:IntKind.i64.wrap ((c.pl:Int)+1)=(c.pl:Int)+1:=Un
 have aM:a≠g:=fun e=>an e.symm
 have aN:G.b≠a:=fun e=>az e.symm
 have aO:G.b≠g:=fun e=>aB e.symm
 have f:∀i,(w.setCell (a,1) (((c.pl:Int)+1):Int)).cell? ⟨g,i,none⟩=w.cell? ⟨g,i,none⟩:=fun i=>D6 (Dw w _ _ g an)
 have j:=(f (c.pl*4)).trans C;have k:=(f (c.pl*4+1)).trans D;have l:=(f (c.pl*4+2)).trans E;have p:=(f (c.pl*4+3)).trans F;obtain⟨rfl,rfl,rfl,J⟩:=aC;have aL:=C0 (True) trivial;have K:=U ak;have M:=U H;have d:(w.setCell (a,1) (((c.pl:Int)+1):Int)).heap.size=w.heap.size:=Uk
 have N:=U (J.below H Zr);have L:=U al;obtain⟨aj,op,rfl,_⟩:=id J;clear J al;clear q am ao ak H I f;rcases x with aI|⟨ar,aJ⟩|_
 .show Calls _ _ _ _ (g5 G w aI (.tuple #[]))
  go_enter func70,ntmps70;go_wp2_with fail
  go_quiet (fail)
  go_upto_region 3 with fail;have A:=U (K.o.same (w':=(w.drewN nq).setCell ⟨a,1,none⟩ (((c.pl:Int)+1):Int)) rfl rfl rfl rfl);have y:=U (qH M.o (w':=(w.drewN nq).setCell ⟨a,1,none⟩ (((c.pl:Int)+1):Int)) rfl rfl rfl rfl);have z:=C0 (oP G.B ((w.drewN nq).setCell (a,1) (((c.pl:Int)+1):Int)) (.pointer (some ⟨aj,op,none⟩)) e) (N.o.below (qH Zb rfl rfl rfl rfl) Zr);have au:((w.drewN nq).setCell (a,1) (((c.pl:Int)+1):Int)).cell? (g,c.pl*4)=_:=j;have av:((w.drewN nq).setCell (a,1) (((c.pl:Int)+1):Int)).cell? (g,c.pl*4+1)=_:=k;have aw:((w.drewN nq).setCell (a,1) (((c.pl:Int)+1):Int)).cell? (g,c.pl*4+2)=_:=l;have ax:((w.drewN nq).setCell (a,1) (((c.pl:Int)+1):Int)).cell? (g,c.pl*4+3)=_:=p;have aG:((w.drewN nq).setCell (a,1) (((c.pl:Int)+1):Int)).heap.size<=w.heap.size:=Dv d;have aH:w.heap.size<=((w.drewN nq).setCell (a,1) (((c.pl:Int)+1):Int)).heap.size:=Dv d.symm;clear j k l p d P Q R S T V X Y Z aa ab ad ae af ag ah ai C D E F;generalize(w.drewN nq).setCell (a,1) (((c.pl:Int)+1):Int)=W at *;have aA:g<W.heap.size:=O
  have aD:G.b<W.heap.size:=O
  have ay:a<W.heap.size:=O
  go_wp2_with (first
   | (go_at_call 95;(refine(L.o τ W _ ⟨_,_,_,_,A.o⟩ z.o).mono ?_);rintro e aK ⟨rfl,u,t⟩
      have aq:=U u;have ap:=U t
      clear u t))
  go_end0
  exact⟨rfl,aq.o,y.o.trans ap.o⟩
 .show Calls _ _ _ _ (ya G w ar aJ)
  go_enter func70,ntmps70;go_wp2_with fail
  go_quiet (fail)
  go_upto_region 3 with fail;have A:=U (K.o.same (w':=(w.drewN nq).setCell ⟨a,1,none⟩ (((c.pl:Int)+1):Int)) rfl rfl rfl rfl);have y:=U (qH M.o (w':=(w.drewN nq).setCell ⟨a,1,none⟩ (((c.pl:Int)+1):Int)) rfl rfl rfl rfl);have z:=C0 (oP G.B ((w.drewN nq).setCell (a,1) (((c.pl:Int)+1):Int)) (.pointer (some ⟨aj,op,none⟩)) e) (N.o.below (qH Zb rfl rfl rfl rfl) Zr);have au:((w.drewN nq).setCell (a,1) (((c.pl:Int)+1):Int)).cell? (g,c.pl*4)=_:=j;have av:((w.drewN nq).setCell (a,1) (((c.pl:Int)+1):Int)).cell? (g,c.pl*4+1)=_:=k;have aw:((w.drewN nq).setCell (a,1) (((c.pl:Int)+1):Int)).cell? (g,c.pl*4+2)=_:=l;have ax:((w.drewN nq).setCell (a,1) (((c.pl:Int)+1):Int)).cell? (g,c.pl*4+3)=_:=p;have aG:((w.drewN nq).setCell (a,1) (((c.pl:Int)+1):Int)).heap.size<=w.heap.size:=Dv d;have aH:w.heap.size<=((w.drewN nq).setCell (a,1) (((c.pl:Int)+1):Int)).heap.size:=Dv d.symm;clear j k l p d P Q R S T V X Y Z aa ab ad ae af ag ah ai C D E F;generalize(w.drewN nq).setCell (a,1) (((c.pl:Int)+1):Int)=W at *;have aA:g<W.heap.size:=O
  have aD:G.b<W.heap.size:=O
  have ay:a<W.heap.size:=O
  go_wp2_with (first
   |(go_at_call 95;(refine(L.o τ W _ ⟨_,_,_,_,A.o⟩ z.o).mono ?_);rintro e aK ⟨rfl,u,t⟩;exact⟨rfl,rfl,u,y.o.trans t⟩))
 .exact absurd rfl aF
theorem OZ(I:MW G τ w m){c:Fr}{r:List Fr}(ai:m.cs=c::r)(ak:m.s.stat=0)(al:c.code[c.pl]?=some .beg):
 Cy 70 #[(G.b,0)] w (DI G w (yC G.p .beg m.s m.v { c with pl:=c.pl+1 } r)):=by
 obtain⟨vi,vv,pa,vo,x⟩:=I;obtain⟨a,g,n,_,_,mp,_,_,_,_,_,rfl,H,_,_,_,_,aj,ax,av,_,ay,⟨C,D,E,F⟩,ag,ah⟩:=x.fetch ai al;obtain⟨⟨L,M,N,P,Q,R,S,T,V,X⟩,Y⟩:=zD x.box;obtain⟨⟨Z,aa,ab,ad,ae⟩,af⟩:=zS H;have aI:=x.lt;have aH:=zB H;have aJ:(c.pl:Int)<(n:Int):=O
 have aK:IntKind.i64.wrap ((c.pl:Int)+1)=(c.pl:Int)+1:=Un
 have aE:a≠g:=fun e=>aj e.symm
 have aF:G.b≠a:=fun e=>av e.symm
 have aG:G.b≠g:=fun e=>ax e.symm
 have f:∀i,(w.setCell (a,1) (((c.pl:Int)+1):Int)).cell? ⟨g,i,none⟩=w.cell? ⟨g,i,none⟩:=fun i=>D6 (Dw w _ _ g aj)
 have k:=(f (c.pl*4)).trans C;have l:=(f (c.pl*4+1)).trans D;have q:=(f (c.pl*4+2)).trans E;have u:=(f (c.pl*4+3)).trans F;obtain⟨rfl,rfl,rfl,rfl⟩:=ay;have aD:=C0 (True) trivial;have J:=U ag;have K:=U ah;have d:(w.setCell (a,1) (((c.pl:Int)+1):Int)).heap.size=w.heap.size:=Uk
 have j:=U (show ∀τ (W:C3),MW G τ W ⟨m.s,m.v,{ c with pl:=c.pl+1 } :: r⟩->Cy 93 #[(G.b,0)] W fun e w'=>match zj m.s with
  |.ok _ t=>g5 G W ⟨t,m.v,{ c with pl:=c.pl+1 } :: r⟩ (.tuple #[]) e w'
  |.fin t=>ya G W none t e w' from fun τ W I=>NW I ak)
 clear ak;clear x ai al ag ah H f
 show Calls _ _ _ _ (DI G w (match zj m.s with
  |.ok _ t=>.go ⟨t,m.v,{ c with pl:=c.pl+1 } :: r⟩
  |.fin t=>.stop none t))
 cases hst:zj m.s with
 |ok _ t=>
   rw[hst]at j;show Calls _ _ _ _ (g5 G w ⟨t,m.v,{ c with pl:=c.pl+1 } :: r⟩ (.tuple #[]));go_enter func70,ntmps70;go_wp2_with fail
   go_quiet (fail)
   go_upto_region 3 with fail;have B:=U (J.o.same (w':=(w.drewN nq).setCell ⟨a,1,none⟩ (((c.pl:Int)+1):Int)) rfl rfl rfl rfl);have A:=U (qH K.o (w':=(w.drewN nq).setCell ⟨a,1,none⟩ (((c.pl:Int)+1):Int)) rfl rfl rfl rfl);have ao:((w.drewN nq).setCell (a,1) (((c.pl:Int)+1):Int)).cell? (g,c.pl*4)=_:=k;have ap:((w.drewN nq).setCell (a,1) (((c.pl:Int)+1):Int)).cell? (g,c.pl*4+1)=_:=l;have aq:((w.drewN nq).setCell (a,1) (((c.pl:Int)+1):Int)).cell? (g,c.pl*4+2)=_:=q;have ar:((w.drewN nq).setCell (a,1) (((c.pl:Int)+1):Int)).cell? (g,c.pl*4+3)=_:=u;have aA:((w.drewN nq).setCell (a,1) (((c.pl:Int)+1):Int)).heap.size<=w.heap.size:=Dv d;have aB:w.heap.size<=((w.drewN nq).setCell (a,1) (((c.pl:Int)+1):Int)).heap.size:=Dv d.symm;clear k l q u d L M N P Q R S T V X Y Z aa ab ad ae af C D E F;generalize(w.drewN nq).setCell (a,1) (((c.pl:Int)+1):Int)=W at *;have aw:g<W.heap.size:=O
   have az:G.b<W.heap.size:=O
   have au:a<W.heap.size:=O
   go_wp2_with (first
    | (go_at_call 93;(refine(j.o τ W ⟨_,_,_,_,B.o⟩).mono ?_);rintro e aC ⟨rfl,z,y⟩
       have an:=U z;have am:=U y
       clear z y))
   go_end0
   exact⟨rfl,an.o,A.o.trans am.o⟩
 |fin t=>
   rw[hst]at j;show Calls _ _ _ _ (ya G w none t);go_enter func70,ntmps70;go_wp2_with fail
   go_quiet (fail)
   go_upto_region 3 with fail;have B:=U (J.o.same (w':=(w.drewN nq).setCell ⟨a,1,none⟩ (((c.pl:Int)+1):Int)) rfl rfl rfl rfl);have A:=U (qH K.o (w':=(w.drewN nq).setCell ⟨a,1,none⟩ (((c.pl:Int)+1):Int)) rfl rfl rfl rfl);have ao:((w.drewN nq).setCell (a,1) (((c.pl:Int)+1):Int)).cell? (g,c.pl*4)=_:=k;have ap:((w.drewN nq).setCell (a,1) (((c.pl:Int)+1):Int)).cell? (g,c.pl*4+1)=_:=l;have aq:((w.drewN nq).setCell (a,1) (((c.pl:Int)+1):Int)).cell? (g,c.pl*4+2)=_:=q;have ar:((w.drewN nq).setCell (a,1) (((c.pl:Int)+1):Int)).cell? (g,c.pl*4+3)=_:=u;have aA:((w.drewN nq).setCell (a,1) (((c.pl:Int)+1):Int)).heap.size<=w.heap.size:=Dv d;have aB:w.heap.size<=((w.drewN nq).setCell (a,1) (((c.pl:Int)+1):Int)).heap.size:=Dv d.symm;clear k l q u d L M N P Q R S T V X Y Z aa ab ad ae af C D E F;generalize(w.drewN nq).setCell (a,1) (((c.pl:Int)+1):Int)=W at *;have aw:g<W.heap.size:=O
   have az:G.b<W.heap.size:=O
   have au:a<W.heap.size:=O
   go_wp2_with (first
    |(go_at_call 93;(refine(j.o τ W ⟨_,_,_,_,B.o⟩).mono ?_);rintro e aC ⟨rfl,z,y⟩;exact⟨rfl,rfl,z,A.o.trans y⟩))
theorem O0(aw:MW G τ w m){c:Fr}{r:List Fr}(M:m.cs=c::r)(R:c.code[c.pl]?=some (.jmp t)):
 Cy 70 #[(G.b,0)] w (g5 G w ⟨m.s,m.v,{ c with pl:=t } :: r⟩ (.tuple #[])):=by
 obtain⟨vi,vv,pa,vo,j⟩:=aw;obtain⟨a,g,n,_,_,mp,_,_,_,_,_,rfl,q,_,_,_,_,N,au,aq,_,av,⟨A,B,C,D⟩,J,L⟩:=j.fetch M R;obtain⟨⟨Z,aa,z,ab,ad,ae,af,ag,ah,ai⟩,aj⟩:=zD j.box;obtain⟨⟨ak,al,am,an,ao⟩,ap⟩:=zS q;have aJ:=j.lt;have aI:=zB q;have aK:(c.pl:Int)<(n:Int):=O
 have aL:IntKind.i64.wrap ((c.pl:Int)+1)=(c.pl:Int)+1:=Un
 have aD:a≠g:=fun e=>N e.symm
 have aE:G.b≠a:=fun e=>aq e.symm
 have aF:G.b≠g:=fun e=>au e.symm
 have f:∀i,(w.setCell (a,1) (((c.pl:Int)+1):Int)).cell? ⟨g,i,none⟩=w.cell? ⟨g,i,none⟩:=fun i=>D6 (Dw w _ _ g N)
 have E:=(f (c.pl*4)).trans A;have F:=(f (c.pl*4+1)).trans B;have H:=(f (c.pl*4+2)).trans C;have I:=(f (c.pl*4+3)).trans D;obtain⟨rfl,rfl,rfl,rfl⟩:=av;have ax:=C0 (True) trivial;have S:=U J;have T:=U L;have x:(w.setCell (a,1) (((c.pl:Int)+1):Int)).heap.size=w.heap.size:=Uk
 clear j M R J L q f;go_enter func70,ntmps70;go_wp2_with fail
 go_quiet (fail)
 go_upto_region 3 with fail;have l:=U (S.o.same (w':=(w.drewN nq).setCell ⟨a,1,none⟩ (((c.pl:Int)+1):Int)) rfl rfl rfl rfl);have V:=U (qH T.o (w':=(w.drewN nq).setCell ⟨a,1,none⟩ (((c.pl:Int)+1):Int)) rfl rfl rfl rfl);have ay:((w.drewN nq).setCell (a,1) (((c.pl:Int)+1):Int)).cell? (g,c.pl*4)=_:=E;have az:((w.drewN nq).setCell (a,1) (((c.pl:Int)+1):Int)).cell? (g,c.pl*4+1)=_:=F;have aA:((w.drewN nq).setCell (a,1) (((c.pl:Int)+1):Int)).cell? (g,c.pl*4+2)=_:=H;have aB:((w.drewN nq).setCell (a,1) (((c.pl:Int)+1):Int)).cell? (g,c.pl*4+3)=_:=I;have aM:((w.drewN nq).setCell (a,1) (((c.pl:Int)+1):Int)).heap.size<=w.heap.size:=Dv x;have aN:w.heap.size<=((w.drewN nq).setCell (a,1) (((c.pl:Int)+1):Int)).heap.size:=Dv x.symm;clear E F H I x Z aa z ab ad ae af ag ah ai aj ak al am an ao ap A B C D;generalize(w.drewN nq).setCell (a,1) (((c.pl:Int)+1):Int)=W at *;have aG:g<W.heap.size:=O
 have aH:G.b<W.heap.size:=O
 have aC:a<W.heap.size:=O
 have ar:=l.o.frs;obtain⟨z,_,_,_,_,_,_,d,u,P⟩:=ar;injection d with d;injection d with d;injection d with d _ _;subst d;obtain⟨⟨_,f1,_,f3,_⟩,_⟩:=zS u.box;have y:=U u;have Y:=U P;clear u P;go_wp2_with fail
 go_end0
 have K:fF (fun k=>XD r.length (τ k)) W (W.setCell (a,1) ((t:Int):Int)):=fF.set (X:=fun k=>XD r.length (τ k)) W (.inl y.o.lab) 1 _;have Q:=l.o.top rfl K (gO.refl τ W) Y.o (y.o.place (p:=t) (l.o.below (X:=XD r.length) K (lG _).1));exact⟨rfl,⟨_,_,_,_,_,Q.1⟩,V.o.trans Q.2⟩
theorem JL(aM:MW G τ w m){c:Fr}{r:List Fr}(Z:m.cs=c::r)(af:m.v=q++[0])(_:q.length<=1000000000)(ag:c.code[c.pl]?=some (.unl t)):
 Cy 70 #[(G.b,0)] w (g5 G w ⟨m.s,q,{ c with pl:=t } :: r⟩ (.tuple #[])):=by
 obtain⟨vi,vv,pa,vo,u⟩:=aM;obtain⟨a,g,n,_,_,mp,_,_,_,_,_,rfl,z,_,_,_,_,aa,ab,aK,_,aL,⟨K,L,M,N⟩,T,Y⟩:=u.fetch Z ag;obtain⟨⟨aq,ar,J,au,av,aw,ax,ay,az,aA⟩,aB⟩:=zD u.box;obtain⟨⟨aC,aD,aE,aF,aG⟩,aH⟩:=zS z;have a4:=u.lt;have a3:=zB z;have a5:(c.pl:Int)<(n:Int):=O
 have a6:IntKind.i64.wrap ((c.pl:Int)+1)=(c.pl:Int)+1:=Un
 have aW:a≠g:=fun e=>aa e.symm
 have aX:G.b≠a:=fun e=>aK e.symm
 have aY:G.b≠g:=fun e=>ab e.symm
 have f:∀i,(w.setCell (a,1) (((c.pl:Int)+1):Int)).cell? ⟨g,i,none⟩=w.cell? ⟨g,i,none⟩:=fun i=>D6 (Dw w _ _ g aa)
 have P:=(f (c.pl*4)).trans K;have Q:=(f (c.pl*4+1)).trans L;have R:=(f (c.pl*4+2)).trans M;have S:=(f (c.pl*4+3)).trans N;obtain⟨rfl,rfl,rfl,rfl⟩:=aL;have aQ:=C0 (True) trivial;have aj:=U T;have ak:=U Y;have D:(w.setCell (a,1) (((c.pl:Int)+1):Int)).heap.size=w.heap.size:=Uk
 have ap:=U af;clear af;clear u Z ag T Y z f;go_enter func70,ntmps70;go_wp2_with fail
 go_quiet (fail)
 go_upto_region 3 with fail;have I:=U (aj.o.same (w':=(w.drewN nq).setCell ⟨a,1,none⟩ (((c.pl:Int)+1):Int)) rfl rfl rfl rfl);have al:=U (qH ak.o (w':=(w.drewN nq).setCell ⟨a,1,none⟩ (((c.pl:Int)+1):Int)) rfl rfl rfl rfl);have aI:((w.drewN nq).setCell (a,1) (((c.pl:Int)+1):Int)).cell? (g,c.pl*4)=_:=P;have aJ:((w.drewN nq).setCell (a,1) (((c.pl:Int)+1):Int)).cell? (g,c.pl*4+1)=_:=Q;have aS:((w.drewN nq).setCell (a,1) (((c.pl:Int)+1):Int)).cell? (g,c.pl*4+2)=_:=R;have aT:((w.drewN nq).setCell (a,1) (((c.pl:Int)+1):Int)).cell? (g,c.pl*4+3)=_:=S;have a7:((w.drewN nq).setCell (a,1) (((c.pl:Int)+1):Int)).heap.size<=w.heap.size:=Dv D;have a8:w.heap.size<=((w.drewN nq).setCell (a,1) (((c.pl:Int)+1):Int)).heap.size:=Dv D.symm;clear P Q R S D aq ar J au av aw ax ay az aA aB aC aD aE aF aG aH K L M N;generalize(w.drewN nq).setCell (a,1) (((c.pl:Int)+1):Int)=W at *;have aZ:g<W.heap.size:=O
 have a1:G.b<W.heap.size:=O
 have aU:a<W.heap.size:=O
 obtain⟨l,j,rfl,aN,aO,aP,ai,E,ah⟩:=I.o.wn (q:=q) (x:=0) ap.o;have aR:=U ai;have H:=U E;have an:=U ah;obtain⟨J,_,_,_,_,_,_,d,B,ad⟩:=E.frs;injection d with d;injection d with d;injection d with d _ _;subst d;obtain⟨⟨_,f1,_,f3,_⟩,_⟩:=zS B.box;have F:=U B;have ao:=U ad;have y:∀k,k≠G.b->(W.setCell (G.b,3) (.slice (some ⟨l,0,none⟩) q.length j)).heap[k]?=W.heap[k]?:=fun k y=>Dw W _ _ k y
 have A:∀i,(W.setCell (G.b,3) (.slice (some ⟨l,0,none⟩) q.length j)).cell? ⟨g,i,none⟩=W.cell? ⟨g,i,none⟩:=fun i=>D6 (y g ab)
 have bb:=(A _).trans aI;have bc:=(A _).trans aJ;have C:(W.setCell (G.b,3) (.slice (some ⟨l,0,none⟩) q.length j)).heap.size=W.heap.size:=Uk
 have a9:=Dv C;have ba:=Dv C.symm;have am:=U I.o.box;clear E ah ai B ad y A C;go_upto_region 14 with(go_at_call 96;(refine(xt am.o aN aO aP O).mono ?_);rintro e _ ⟨rfl,rfl⟩);generalize W.setCell (G.b,3) (.slice (some ⟨l,0,none⟩) q.length j)=W4 at *;have a0:g<W4.heap.size:=O
 have aV:a<W4.heap.size:=O
 have a2:G.b<W4.heap.size:=O
 go_wp2_with fail
 go_end0
 have V:fF (fun k=>XD r.length (τ k)) W4 (W4.setCell (a,1) ((t:Int):Int)):=fF.set (X:=fun k=>XD r.length (τ k)) W4 (.inl F.o.lab) 1 _;have ae:=H.o.top rfl V (gO.refl τ W4) ao.o (F.o.place (p:=t) (H.o.below (X:=XD r.length) V (lG _).1));exact⟨rfl,⟨_,_,_,_,_,ae.1⟩,(al.o.trans an.o).trans ae.2⟩
theorem JM(aH:MW G τ w m){c:Fr}{r:List Fr}(T:m.cs=c::r)(Z:m.v=q++[x])(Q:x≠0)(_:q.length<=1000000000)(aa:c.code[c.pl]?=some (.unl t)):
 Cy 70 #[(G.b,0)] w (g5 G w ⟨m.s,q,{ c with pl:=c.pl+1 } :: r⟩ (.tuple #[])):=by
 obtain⟨vi,vv,pa,vo,j⟩:=aH;obtain⟨a,g,n,_,_,mp,_,_,_,_,_,rfl,y,_,_,_,_,V,X,aF,_,aG,⟨H,I,J,K⟩,R,S⟩:=j.fetch T aa;obtain⟨⟨al,am,F,an,ao,ap,aq,ar,au,av⟩,aw⟩:=zD j.box;obtain⟨⟨ax,ay,az,aA,aB⟩,aC⟩:=zS y;have aY:=j.lt;have aX:=zB y;have aZ:(c.pl:Int)<(n:Int):=O
 have a0:IntKind.i64.wrap ((c.pl:Int)+1)=(c.pl:Int)+1:=Un
 have aS:a≠g:=fun e=>V e.symm
 have aT:G.b≠a:=fun e=>aF e.symm
 have aU:G.b≠g:=fun e=>X e.symm
 have f:∀i,(w.setCell (a,1) (((c.pl:Int)+1):Int)).cell? ⟨g,i,none⟩=w.cell? ⟨g,i,none⟩:=fun i=>D6 (Dw w _ _ g V)
 have L:=(f (c.pl*4)).trans H;have M:=(f (c.pl*4+1)).trans I;have N:=(f (c.pl*4+2)).trans J;have P:=(f (c.pl*4+3)).trans K;obtain⟨rfl,rfl,rfl,rfl⟩:=aG;have aM:=C0 (True) trivial;have ae:=U R;have af:=U S;have C:(w.setCell (a,1) (((c.pl:Int)+1):Int)).heap.size=w.heap.size:=Uk
 have ak:=U Z;have a1:(x == 0)=false:=by simpa using Q
 clear Z Q;clear j T aa R S y f;go_enter func70,ntmps70;go_wp2_with fail
 go_quiet (fail)
 go_upto_region 3 with fail;have E:=U (ae.o.same (w':=(w.drewN nq).setCell ⟨a,1,none⟩ (((c.pl:Int)+1):Int)) rfl rfl rfl rfl);have ag:=U (qH af.o (w':=(w.drewN nq).setCell ⟨a,1,none⟩ (((c.pl:Int)+1):Int)) rfl rfl rfl rfl);have aD:((w.drewN nq).setCell (a,1) (((c.pl:Int)+1):Int)).cell? (g,c.pl*4)=_:=L;have aE:((w.drewN nq).setCell (a,1) (((c.pl:Int)+1):Int)).cell? (g,c.pl*4+1)=_:=M;have aP:((w.drewN nq).setCell (a,1) (((c.pl:Int)+1):Int)).cell? (g,c.pl*4+2)=_:=N;have aQ:((w.drewN nq).setCell (a,1) (((c.pl:Int)+1):Int)).cell? (g,c.pl*4+3)=_:=P;have a2:((w.drewN nq).setCell (a,1) (((c.pl:Int)+1):Int)).heap.size<=w.heap.size:=Dv C;have a3:w.heap.size<=((w.drewN nq).setCell (a,1) (((c.pl:Int)+1):Int)).heap.size:=Dv C.symm;clear L M N P C al am F an ao ap aq ar au av aw ax ay az aA aB aC H I J K;generalize(w.drewN nq).setCell (a,1) (((c.pl:Int)+1):Int)=W at *;have aV:g<W.heap.size:=O
 have aW:G.b<W.heap.size:=O
 have aR:a<W.heap.size:=O
 obtain⟨u,p,rfl,aI,aJ,aK,ad,D,ab⟩:=E.o.wn (q:=q) (x:=x) ak.o;have aN:=U ad;have ai:=U D;have aj:=U ab;obtain⟨F,_,_,_,_,_,_,d,A,Y⟩:=D.frs;injection d with d;injection d with d;injection d with d _ _;subst d;obtain⟨⟨_,f1,_,f3,_⟩,_⟩:=zS A.box;have aL:=U A;have aO:=U Y;have l:∀k,k≠G.b->(W.setCell (G.b,3) (.slice (some ⟨u,0,none⟩) q.length p)).heap[k]?=W.heap[k]?:=fun k l=>Dw W _ _ k l
 have z:∀i,(W.setCell (G.b,3) (.slice (some ⟨u,0,none⟩) q.length p)).cell? ⟨g,i,none⟩=W.cell? ⟨g,i,none⟩:=fun i=>D6 (l g X)
 have a6:=(z _).trans aD;have a7:=(z _).trans aE;have B:(W.setCell (G.b,3) (.slice (some ⟨u,0,none⟩) q.length p)).heap.size=W.heap.size:=Uk
 have a4:=Dv B;have a5:=Dv B.symm;have ah:=U E.o.box;clear D ab ad A Y l z B;go_wp2_with (go_at_call 96;(refine(xt ah.o aI aJ aK O).mono ?_);rintro e _ ⟨rfl,rfl⟩)
 go_end0
 exact⟨rfl,⟨_,_,_,_,_,ai.o⟩,ag.o.trans aj.o⟩
theorem k8(aX:MW G τ w m){c:Fr}{r:List Fr}(af:m.cs=c::r)(am:m.v=q++[x])(aa:x=0)(_:q.length<=1000000000)(an:c.code[c.pl]?=some (.lzy true t)):
 Cy 70 #[(G.b,0)] w (g5 G w ⟨m.s,q++[x],{ c with pl:=t } :: r⟩ (.tuple #[])):=by
 obtain⟨vi,vv,pa,vo,A⟩:=aX;obtain⟨a,g,n,_,_,mp,_,_,_,_,_,rfl,F,_,_,_,aV,ah,ai,aU,_,aW,⟨P,Q,R,S⟩,ab,ae⟩:=A.fetch af an;obtain⟨⟨aC,aD,C,aE,aF,aG,aH,aI,aJ,aK⟩,aL⟩:=zD A.box;obtain⟨⟨aM,aN,aO,aP,aQ⟩,aR⟩:=zS F;have bo:=A.lt;have bn:=zB F;have bp:(c.pl:Int)<(n:Int):=O
 have bq:IntKind.i64.wrap ((c.pl:Int)+1)=(c.pl:Int)+1:=Un
 have bg:a≠g:=fun e=>ah e.symm
 have bh:G.b≠a:=fun e=>aU e.symm
 have bi:G.b≠g:=fun e=>ai e.symm
 have l:∀i,(w.setCell (a,1) (((c.pl:Int)+1):Int)).cell? ⟨g,i,none⟩=w.cell? ⟨g,i,none⟩:=fun i=>D6 (Dw w _ _ g ah)
 have T:=(l (c.pl*4)).trans P;have V:=(l (c.pl*4+1)).trans Q;have Y:=(l (c.pl*4+2)).trans R;have Z:=(l (c.pl*4+3)).trans S;obtain⟨rfl,rfl,rfl,rfl⟩:=aW;have a9:=C0 (True) trivial;have aq:=U ab;have ar:=U ae;have J:(w.setCell (a,1) (((c.pl:Int)+1):Int)).heap.size=w.heap.size:=Uk
 have aB:=U am;have br:(x == 0)=true:=by simpa using aa
 clear am aa;clear A af an ab ae F l;go_enter func70,ntmps70;go_wp2_with fail
 go_quiet (fail)
 go_upto_region 3 with fail;have N:=U (aq.o.same (w':=(w.drewN nq).setCell ⟨a,1,none⟩ (((c.pl:Int)+1):Int)) rfl rfl rfl rfl);have av:=U (qH ar.o (w':=(w.drewN nq).setCell ⟨a,1,none⟩ (((c.pl:Int)+1):Int)) rfl rfl rfl rfl);have aS:((w.drewN nq).setCell (a,1) (((c.pl:Int)+1):Int)).cell? (g,c.pl*4)=_:=T;have aT:((w.drewN nq).setCell (a,1) (((c.pl:Int)+1):Int)).cell? (g,c.pl*4+1)=_:=V;have bb:((w.drewN nq).setCell (a,1) (((c.pl:Int)+1):Int)).cell? (g,c.pl*4+2)=_:=Y;have bc:((w.drewN nq).setCell (a,1) (((c.pl:Int)+1):Int)).cell? (g,c.pl*4+3)=_:=Z;have bs:((w.drewN nq).setCell (a,1) (((c.pl:Int)+1):Int)).heap.size<=w.heap.size:=Dv J;have bt:w.heap.size<=((w.drewN nq).setCell (a,1) (((c.pl:Int)+1):Int)).heap.size:=Dv J.symm;clear T V Y Z J aC aD C aE aF aG aH aI aJ aK aL aM aN aO aP aQ aR P Q R S;generalize(w.drewN nq).setCell (a,1) (((c.pl:Int)+1):Int)=W at *;have bj:g<W.heap.size:=O
 have bl:G.b<W.heap.size:=O
 have bd:a<W.heap.size:=O
 obtain⟨z,y,rfl,a2,a3,a4,ap,K,ao⟩:=N.o.wn (q:=q) (x:=x) aB.o;have az:=U ap;have ax:=U K;have ay:=U ao;obtain⟨C,a5,a6,a0,a7,aZ,a1,d,f,u⟩:=K.frs;injection d with d;injection d with d;injection d with d _ _;subst d;obtain⟨⟨_,f1,_,f3,_⟩,_⟩:=zS f.box;have a8:=U f;have ba:=U u;have B:∀k,k≠G.b->(W.setCell (G.b,3) (.slice (some ⟨z,0,none⟩) q.length y)).heap[k]?=W.heap[k]?:=fun k B=>Dw W _ _ k B
 have H:∀i,(W.setCell (G.b,3) (.slice (some ⟨z,0,none⟩) q.length y)).cell? ⟨g,i,none⟩=W.cell? ⟨g,i,none⟩:=fun i=>D6 (B g ai)
 have bw:=(H _).trans aS;have aY:=(H _).trans aT;have I:(W.setCell (G.b,3) (.slice (some ⟨z,0,none⟩) q.length y)).heap.size=W.heap.size:=Uk
 have bu:=Dv I;have bv:=Dv I.symm;have aw:=U N.o.box;clear K ao ap f u B H I;go_upto_region 18 with(go_at_call 96;(refine(xt aw.o a2 a3 a4 O).mono ?_);rintro e _ ⟨rfl,rfl⟩);generalize W.setCell (G.b,3) (.slice (some ⟨z,0,none⟩) q.length y)=W4 at *;have ag:g<W4.heap.size:=O
 have be:a<W4.heap.size:=O
 have bm:G.b<W4.heap.size:=O
 go_upto_region 20 with(first
  | (go_at_call 97;(refine(tB (m:=⟨m.s,q,{ c with pl:=c.pl+1 } :: r⟩) ax.o x az.o Xw).mono ?_);rintro e j ⟨rfl,⟨τ5,_,D⟩,E,ak⟩
     have aj:j.heap[g]?=W4.heap[g]?:=ak.block g ag Gf;have n1:=(show j.cell? (g,c.pl*4+1)=W4.cell? (g,c.pl*4+1)from D6 aj).trans aY;have bk:g<j.heap.size:=Yb ag E.size;obtain⟨C,a5,a6,a0,a7,aZ,a1,d,f,u⟩:=D.frs;injection d with d;injection d with d;injection d with d _ _;subst d;obtain⟨⟨_,_,_,_,_⟩,_⟩:=zS f.box;have bf:=zB f.box;have M:=U f;have aA:=U u;have L:=U D;have au:=U E
     clear D E ak f u aj))
 go_wp2_with fail
 go_end0
 have ad:fF (fun k=>XD r.length (τ5 k)) j (j.setCell (a,1) ((t:Int):Int)):=fF.set (X:=fun k=>XD r.length (τ5 k)) j (.inl M.o.lab) 1 _;have al:=L.o.top rfl ad (gO.refl τ5 j) aA.o (M.o.place (p:=t) (L.o.below (X:=XD r.length) ad (lG _).1));exact⟨rfl,⟨_,_,_,_,_,al.1⟩,((av.o.trans ay.o).trans au.o).trans al.2⟩
theorem nE(aH:MW G τ w m){c:Fr}{r:List Fr}(T:m.cs=c::r)(Z:m.v=q++[x])(Q:x≠0)(_:q.length<=1000000000)(aa:c.code[c.pl]?=some (.lzy true t)):
 Cy 70 #[(G.b,0)] w (g5 G w ⟨m.s,q,{ c with pl:=c.pl+1 } :: r⟩ (.tuple #[])):=by
 obtain⟨vi,vv,pa,vo,p⟩:=aH;obtain⟨a,g,n,_,_,mp,_,_,_,_,_,rfl,y,_,_,_,_,V,X,aF,_,aG,⟨H,I,J,K⟩,R,S⟩:=p.fetch T aa;obtain⟨⟨al,am,F,an,ao,ap,aq,ar,au,av⟩,aw⟩:=zD p.box;obtain⟨⟨ax,ay,az,aA,aB⟩,aC⟩:=zS y;have a1:=p.lt;have a0:=zB y;have a2:(c.pl:Int)<(n:Int):=O
 have a3:IntKind.i64.wrap ((c.pl:Int)+1)=(c.pl:Int)+1:=Un
 have aT:a≠g:=fun e=>V e.symm
 have aU:G.b≠a:=fun e=>aF e.symm
 have aV:G.b≠g:=fun e=>X e.symm
 have f:∀i,(w.setCell (a,1) (((c.pl:Int)+1):Int)).cell? ⟨g,i,none⟩=w.cell? ⟨g,i,none⟩:=fun i=>D6 (Dw w _ _ g V)
 have L:=(f (c.pl*4)).trans H;have M:=(f (c.pl*4+1)).trans I;have N:=(f (c.pl*4+2)).trans J;have P:=(f (c.pl*4+3)).trans K;obtain⟨rfl,rfl,rfl,rfl⟩:=aG;have aM:=C0 (True) trivial;have ae:=U R;have af:=U S;have C:(w.setCell (a,1) (((c.pl:Int)+1):Int)).heap.size=w.heap.size:=Uk
 have ak:=U Z;have a4:(x == 0)=false:=by simpa using Q
 clear Z Q;clear p T aa R S y f;go_enter func70,ntmps70;go_wp2_with fail
 go_quiet (fail)
 go_upto_region 3 with fail;have E:=U (ae.o.same (w':=(w.drewN nq).setCell ⟨a,1,none⟩ (((c.pl:Int)+1):Int)) rfl rfl rfl rfl);have ag:=U (qH af.o (w':=(w.drewN nq).setCell ⟨a,1,none⟩ (((c.pl:Int)+1):Int)) rfl rfl rfl rfl);have aD:((w.drewN nq).setCell (a,1) (((c.pl:Int)+1):Int)).cell? (g,c.pl*4)=_:=L;have aE:((w.drewN nq).setCell (a,1) (((c.pl:Int)+1):Int)).cell? (g,c.pl*4+1)=_:=M;have aP:((w.drewN nq).setCell (a,1) (((c.pl:Int)+1):Int)).cell? (g,c.pl*4+2)=_:=N;have aQ:((w.drewN nq).setCell (a,1) (((c.pl:Int)+1):Int)).cell? (g,c.pl*4+3)=_:=P;have a5:((w.drewN nq).setCell (a,1) (((c.pl:Int)+1):Int)).heap.size<=w.heap.size:=Dv C;have a6:w.heap.size<=((w.drewN nq).setCell (a,1) (((c.pl:Int)+1):Int)).heap.size:=Dv C.symm;clear L M N P C al am F an ao ap aq ar au av aw ax ay az aA aB aC H I J K;generalize(w.drewN nq).setCell (a,1) (((c.pl:Int)+1):Int)=W at *;have aW:g<W.heap.size:=O
 have aY:G.b<W.heap.size:=O
 have aR:a<W.heap.size:=O
 obtain⟨l,j,rfl,aI,aJ,aK,ad,D,ab⟩:=E.o.wn (q:=q) (x:=x) ak.o;have aN:=U ad;have ai:=U D;have aj:=U ab;obtain⟨F,_,_,_,_,_,_,d,A,Y⟩:=D.frs;injection d with d;injection d with d;injection d with d _ _;subst d;obtain⟨⟨_,f1,_,f3,_⟩,_⟩:=zS A.box;have aL:=U A;have aO:=U Y;have u:∀k,k≠G.b->(W.setCell (G.b,3) (.slice (some ⟨l,0,none⟩) q.length j)).heap[k]?=W.heap[k]?:=fun k u=>Dw W _ _ k u
 have z:∀i,(W.setCell (G.b,3) (.slice (some ⟨l,0,none⟩) q.length j)).cell? ⟨g,i,none⟩=W.cell? ⟨g,i,none⟩:=fun i=>D6 (u g X)
 have a9:=(z _).trans aD;have ba:=(z _).trans aE;have B:(W.setCell (G.b,3) (.slice (some ⟨l,0,none⟩) q.length j)).heap.size=W.heap.size:=Uk
 have a7:=Dv B;have a8:=Dv B.symm;have ah:=U E.o.box;clear D ab ad A Y u z B;go_upto_region 18 with(go_at_call 96;(refine(xt ah.o aI aJ aK O).mono ?_);rintro e _ ⟨rfl,rfl⟩);generalize W.setCell (G.b,3) (.slice (some ⟨l,0,none⟩) q.length j)=W4 at *;have aX:g<W4.heap.size:=O
 have aS:a<W4.heap.size:=O
 have aZ:G.b<W4.heap.size:=O
 go_wp2_with fail
 go_end0
 exact⟨rfl,⟨_,_,_,_,_,ai.o⟩,ag.o.trans aj.o⟩
theorem iO(aX:MW G τ w m){c:Fr}{r:List Fr}(af:m.cs=c::r)(am:m.v=q++[x])(aa:x≠0)(_:q.length<=1000000000)(an:c.code[c.pl]?=some (.lzy false t)):
 Cy 70 #[(G.b,0)] w (g5 G w ⟨m.s,q++[x],{ c with pl:=t } :: r⟩ (.tuple #[])):=by
 obtain⟨vi,vv,pa,vo,A⟩:=aX;obtain⟨a,g,n,_,_,mp,_,_,_,_,_,rfl,F,_,_,_,aV,ah,ai,aU,_,aW,⟨P,Q,R,S⟩,ab,ae⟩:=A.fetch af an;obtain⟨⟨aC,aD,C,aE,aF,aG,aH,aI,aJ,aK⟩,aL⟩:=zD A.box;obtain⟨⟨aM,aN,aO,aP,aQ⟩,aR⟩:=zS F;have bo:=A.lt;have bn:=zB F;have bp:(c.pl:Int)<(n:Int):=O
 have bq:IntKind.i64.wrap ((c.pl:Int)+1)=(c.pl:Int)+1:=Un
 have bg:a≠g:=fun e=>ah e.symm
 have bh:G.b≠a:=fun e=>aU e.symm
 have bi:G.b≠g:=fun e=>ai e.symm
 have l:∀i,(w.setCell (a,1) (((c.pl:Int)+1):Int)).cell? ⟨g,i,none⟩=w.cell? ⟨g,i,none⟩:=fun i=>D6 (Dw w _ _ g ah)
 have T:=(l (c.pl*4)).trans P;have V:=(l (c.pl*4+1)).trans Q;have Y:=(l (c.pl*4+2)).trans R;have Z:=(l (c.pl*4+3)).trans S;obtain⟨rfl,rfl,rfl,rfl⟩:=aW;have a9:=C0 (True) trivial;have aq:=U ab;have ar:=U ae;have J:(w.setCell (a,1) (((c.pl:Int)+1):Int)).heap.size=w.heap.size:=Uk
 have aB:=U am;have br:(x == 0)=false:=by simpa using aa
 clear am aa;clear A af an ab ae F l;go_enter func70,ntmps70;go_wp2_with fail
 go_quiet (fail)
 go_upto_region 3 with fail;have N:=U (aq.o.same (w':=(w.drewN nq).setCell ⟨a,1,none⟩ (((c.pl:Int)+1):Int)) rfl rfl rfl rfl);have av:=U (qH ar.o (w':=(w.drewN nq).setCell ⟨a,1,none⟩ (((c.pl:Int)+1):Int)) rfl rfl rfl rfl);have aS:((w.drewN nq).setCell (a,1) (((c.pl:Int)+1):Int)).cell? (g,c.pl*4)=_:=T;have aT:((w.drewN nq).setCell (a,1) (((c.pl:Int)+1):Int)).cell? (g,c.pl*4+1)=_:=V;have bb:((w.drewN nq).setCell (a,1) (((c.pl:Int)+1):Int)).cell? (g,c.pl*4+2)=_:=Y;have bc:((w.drewN nq).setCell (a,1) (((c.pl:Int)+1):Int)).cell? (g,c.pl*4+3)=_:=Z;have bs:((w.drewN nq).setCell (a,1) (((c.pl:Int)+1):Int)).heap.size<=w.heap.size:=Dv J;have bt:w.heap.size<=((w.drewN nq).setCell (a,1) (((c.pl:Int)+1):Int)).heap.size:=Dv J.symm;clear T V Y Z J aC aD C aE aF aG aH aI aJ aK aL aM aN aO aP aQ aR P Q R S;generalize(w.drewN nq).setCell (a,1) (((c.pl:Int)+1):Int)=W at *;have bj:g<W.heap.size:=O
 have bl:G.b<W.heap.size:=O
 have bd:a<W.heap.size:=O
 obtain⟨z,y,rfl,a2,a3,a4,ap,K,ao⟩:=N.o.wn (q:=q) (x:=x) aB.o;have az:=U ap;have ax:=U K;have ay:=U ao;obtain⟨C,a5,a6,a0,a7,aZ,a1,d,f,u⟩:=K.frs;injection d with d;injection d with d;injection d with d _ _;subst d;obtain⟨⟨_,f1,_,f3,_⟩,_⟩:=zS f.box;have a8:=U f;have ba:=U u;have B:∀k,k≠G.b->(W.setCell (G.b,3) (.slice (some ⟨z,0,none⟩) q.length y)).heap[k]?=W.heap[k]?:=fun k B=>Dw W _ _ k B
 have H:∀i,(W.setCell (G.b,3) (.slice (some ⟨z,0,none⟩) q.length y)).cell? ⟨g,i,none⟩=W.cell? ⟨g,i,none⟩:=fun i=>D6 (B g ai)
 have bw:=(H _).trans aS;have aY:=(H _).trans aT;have I:(W.setCell (G.b,3) (.slice (some ⟨z,0,none⟩) q.length y)).heap.size=W.heap.size:=Uk
 have bu:=Dv I;have bv:=Dv I.symm;have aw:=U N.o.box;clear K ao ap f u B H I;go_upto_region 18 with(go_at_call 96;(refine(xt aw.o a2 a3 a4 O).mono ?_);rintro e _ ⟨rfl,rfl⟩);generalize W.setCell (G.b,3) (.slice (some ⟨z,0,none⟩) q.length y)=W4 at *;have ag:g<W4.heap.size:=O
 have be:a<W4.heap.size:=O
 have bm:G.b<W4.heap.size:=O
 go_upto_region 20 with(first
  | (go_at_call 97;(refine(tB (m:=⟨m.s,q,{ c with pl:=c.pl+1 } :: r⟩) ax.o x az.o Xw).mono ?_);rintro e j ⟨rfl,⟨τ5,_,D⟩,E,ak⟩
     have aj:j.heap[g]?=W4.heap[g]?:=ak.block g ag Gf;have n1:=(show j.cell? (g,c.pl*4+1)=W4.cell? (g,c.pl*4+1)from D6 aj).trans aY;have bk:g<j.heap.size:=Yb ag E.size;obtain⟨C,a5,a6,a0,a7,aZ,a1,d,f,u⟩:=D.frs;injection d with d;injection d with d;injection d with d _ _;subst d;obtain⟨⟨_,_,_,_,_⟩,_⟩:=zS f.box;have bf:=zB f.box;have M:=U f;have aA:=U u;have L:=U D;have au:=U E
     clear D E ak f u aj))
 go_wp2_with fail
 go_end0
 have ad:fF (fun k=>XD r.length (τ5 k)) j (j.setCell (a,1) ((t:Int):Int)):=fF.set (X:=fun k=>XD r.length (τ5 k)) j (.inl M.o.lab) 1 _;have al:=L.o.top rfl ad (gO.refl τ5 j) aA.o (M.o.place (p:=t) (L.o.below (X:=XD r.length) ad (lG _).1));exact⟨rfl,⟨_,_,_,_,_,al.1⟩,((av.o.trans ay.o).trans au.o).trans al.2⟩
theorem lW(aH:MW G τ w m){c:Fr}{r:List Fr}(T:m.cs=c::r)(Z:m.v=q++[x])(Q:x=0)(_:q.length<=1000000000)(aa:c.code[c.pl]?=some (.lzy false t)):
 Cy 70 #[(G.b,0)] w (g5 G w ⟨m.s,q,{ c with pl:=c.pl+1 } :: r⟩ (.tuple #[])):=by
 obtain⟨vi,vv,pa,vo,p⟩:=aH;obtain⟨a,g,n,_,_,mp,_,_,_,_,_,rfl,y,_,_,_,_,V,X,aF,_,aG,⟨H,I,J,K⟩,R,S⟩:=p.fetch T aa;obtain⟨⟨al,am,F,an,ao,ap,aq,ar,au,av⟩,aw⟩:=zD p.box;obtain⟨⟨ax,ay,az,aA,aB⟩,aC⟩:=zS y;have a1:=p.lt;have a0:=zB y;have a2:(c.pl:Int)<(n:Int):=O
 have a3:IntKind.i64.wrap ((c.pl:Int)+1)=(c.pl:Int)+1:=Un
 have aT:a≠g:=fun e=>V e.symm
 have aU:G.b≠a:=fun e=>aF e.symm
 have aV:G.b≠g:=fun e=>X e.symm
 have f:∀i,(w.setCell (a,1) (((c.pl:Int)+1):Int)).cell? ⟨g,i,none⟩=w.cell? ⟨g,i,none⟩:=fun i=>D6 (Dw w _ _ g V)
 have L:=(f (c.pl*4)).trans H;have M:=(f (c.pl*4+1)).trans I;have N:=(f (c.pl*4+2)).trans J;have P:=(f (c.pl*4+3)).trans K;obtain⟨rfl,rfl,rfl,rfl⟩:=aG;have aM:=C0 (True) trivial;have ae:=U R;have af:=U S;have C:(w.setCell (a,1) (((c.pl:Int)+1):Int)).heap.size=w.heap.size:=Uk
 have ak:=U Z;have a4:(x == 0)=true:=by simpa using Q
 clear Z Q;clear p T aa R S y f;go_enter func70,ntmps70;go_wp2_with fail
 go_quiet (fail)
 go_upto_region 3 with fail;have E:=U (ae.o.same (w':=(w.drewN nq).setCell ⟨a,1,none⟩ (((c.pl:Int)+1):Int)) rfl rfl rfl rfl);have ag:=U (qH af.o (w':=(w.drewN nq).setCell ⟨a,1,none⟩ (((c.pl:Int)+1):Int)) rfl rfl rfl rfl);have aD:((w.drewN nq).setCell (a,1) (((c.pl:Int)+1):Int)).cell? (g,c.pl*4)=_:=L;have aE:((w.drewN nq).setCell (a,1) (((c.pl:Int)+1):Int)).cell? (g,c.pl*4+1)=_:=M;have aP:((w.drewN nq).setCell (a,1) (((c.pl:Int)+1):Int)).cell? (g,c.pl*4+2)=_:=N;have aQ:((w.drewN nq).setCell (a,1) (((c.pl:Int)+1):Int)).cell? (g,c.pl*4+3)=_:=P;have a5:((w.drewN nq).setCell (a,1) (((c.pl:Int)+1):Int)).heap.size<=w.heap.size:=Dv C;have a6:w.heap.size<=((w.drewN nq).setCell (a,1) (((c.pl:Int)+1):Int)).heap.size:=Dv C.symm;clear L M N P C al am F an ao ap aq ar au av aw ax ay az aA aB aC H I J K;generalize(w.drewN nq).setCell (a,1) (((c.pl:Int)+1):Int)=W at *;have aW:g<W.heap.size:=O
 have aY:G.b<W.heap.size:=O
 have aR:a<W.heap.size:=O
 obtain⟨l,j,rfl,aI,aJ,aK,ad,D,ab⟩:=E.o.wn (q:=q) (x:=x) ak.o;have aN:=U ad;have ai:=U D;have aj:=U ab;obtain⟨F,_,_,_,_,_,_,d,A,Y⟩:=D.frs;injection d with d;injection d with d;injection d with d _ _;subst d;obtain⟨⟨_,f1,_,f3,_⟩,_⟩:=zS A.box;have aL:=U A;have aO:=U Y;have u:∀k,k≠G.b->(W.setCell (G.b,3) (.slice (some ⟨l,0,none⟩) q.length j)).heap[k]?=W.heap[k]?:=fun k u=>Dw W _ _ k u
 have z:∀i,(W.setCell (G.b,3) (.slice (some ⟨l,0,none⟩) q.length j)).cell? ⟨g,i,none⟩=W.cell? ⟨g,i,none⟩:=fun i=>D6 (u g X)
 have a9:=(z _).trans aD;have ba:=(z _).trans aE;have B:(W.setCell (G.b,3) (.slice (some ⟨l,0,none⟩) q.length j)).heap.size=W.heap.size:=Uk
 have a7:=Dv B;have a8:=Dv B.symm;have ah:=U E.o.box;clear D ab ad A Y u z B;go_upto_region 18 with(go_at_call 96;(refine(xt ah.o aI aJ aK O).mono ?_);rintro e _ ⟨rfl,rfl⟩);generalize W.setCell (G.b,3) (.slice (some ⟨l,0,none⟩) q.length j)=W4 at *;have aX:g<W4.heap.size:=O
 have aS:a<W4.heap.size:=O
 have aZ:G.b<W4.heap.size:=O
 go_wp2_with fail
 go_end0
 exact⟨rfl,⟨_,_,_,_,_,ai.o⟩,ag.o.trans aj.o⟩
