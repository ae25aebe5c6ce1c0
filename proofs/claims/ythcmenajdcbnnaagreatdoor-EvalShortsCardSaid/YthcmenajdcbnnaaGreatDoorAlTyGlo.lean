import Derived.Test.YthcmenajdcbnnaaGreatDoorAlTyLl
set_option linter.unusedSimpArgs false
set_option linter.unusedVariables false
set_option maxRecDepth 100000
set_option maxHeartbeats 99000000
namespace Go.Proofs.YthcmenajdcbnnaaGreatDoor
open Go.RowKit Tryz
theorem Ig{p:Prop}(h:p:=by
 go_ret
 exact⟨congrArg (fun n:Nat=>Ending.returned ((n:Int):Int)) q.o,rfl⟩):p:=h
variable{s:RS}{w:C4}{v u:C5}{n g L:Nat}{p:Pr}{f:Fu}{k ty ft:Int}
def KY(p:Pr):Prop:=(∀a∈p.wa,a.name.size<=maxLen)/\∀f∈p.funcs,f.name.size<=maxLen/\∀x∈f.params,x.name.size<=maxLen
theorem xV{s:C3}:∀{l:List Fu},(qP l s).isSome=l.any fun f=>decide (f.name=s)
 |[]=>rfl
 | f::r=>by
   rw[qP,Cj];by_cases h:f.name=s
   .simp[h]
   .rw[Dp h,Option.isSome_map,xV]
    simp[h]
theorem yU{s:C3}:∀{l:List Ar},(zZ l s).isSome=l.any fun f=>decide (f.name=s)
 |[]=>rfl
 | f::r=>by
   rw[zZ,Cj];by_cases h:f.name=s
   .simp[h]
   .rw[Dp h,Option.isSome_map,yU]
    simp[h]
theorem yV{s:C3}:∀{l:List Pa},(zv l s).isSome=l.any fun f=>decide (f.name=s)
 |[]=>rfl
 | f::r=>by
   rw[zv,Cj,<-yV (l:=r)];cases zv r s with
   |some t=>simp
   |none=>
     by_cases h:f.name=s
     .simp[h]
     .simp[h]
theorem sH:∀l:List Pa,nod (l.map (·.name))= !lM l
 |[]=>rfl
 | x::r=>by
   rw[Y5,nod,lM,sH r,yV,List.any_map,Bool.not_or];rfl
theorem KZ:∀(a b:List C3),nod (a++b)=(nod a&&nod b&&!(a.any fun s=>b.any fun x=>decide (x=s)))
 |[],b=>by simp[nod]
 | s::r,b=>by
   rw[Yv,nod,nod,KZ r b,List.any_append,Cj];cases(r.any fun x=>decide (x=s))<;>cases(b.any fun x=>decide (x=s))<;>cases nod r<;>cases nod b<;>simp
theorem FE:∀l:List Fu,nod (l.map (·.name))= !CI l
 |[]=>rfl
 | x::r=>by
   rw[Y5,nod,CI,FE r,xV,List.any_map,Bool.not_or];rfl
theorem FF(p:Pr):∀l:List Ar,(nod (l.map (·.name))&&!((l.map (·.name)).any fun s=>(p.funcs.map (·.name)).any fun x=>decide (x=s)))= !uW p l
 |[]=>rfl
 | x::r=>by
   rw[Y5,nod,uW,Cj,Bool.not_or,Bool.not_or,Bool.not_or,<-FF p r,yU,xV,List.any_map,List.any_map];simp only[Function.comp_def];cases(r.any fun f=>decide (f.name=x.name))<;>cases(p.funcs.any fun f=>decide (f.name=x.name))<;>simp
theorem FG(p:Pr):nod (p.wa.map (·.name)++p.funcs.map (·.name))= !(uW p p.wa || CI p.funcs):=by
 rw[KZ,FE,Bool.not_or,<-FF p p.wa];cases nod (p.wa.map (·.name))<;>cases CI p.funcs<;>simp
theorem AM{k:Nat}{e:TypeId}{l:List C3}(a:w.ownsRow k e 1 v n (l.map Value.string))(F:n=l.length)(i:l.length<=281474976710656):RJ w.heap.size w v l:=by
 subst F;rcases a.2 with⟨rfl,y⟩|⟨g,p,q,rfl,z,c,A,B,C,f⟩
 .obtain rfl:l=[]:=Yq y
  exact⟨none,0,rfl,Dx _,fun a=>absurd a Uh⟩
 .have E:g<w.heap.size:=(Array.getElem?_eq_some_iff.1 c).1
  refine⟨_,p,rfl,i,fun _=>⟨g,0,rfl,?_⟩⟩
  have D:∀j t,l[j]?=some t->w.cell? ⟨g,0+j,none⟩=some (.string t):=fun j t d=>by
   rw[Yz,Du c]
   have b:(q.toList.take (l.length*1))[j]?=some (Value.string t):=by
    rw[f,Yn,d];rfl
   rw[Y8]at b;split at b
   .simpa using b
   .cases b
  clear a z c A B C f i
  have x:∀(m:List C3) (o:Nat),(∀j t,m[j]?=some t->w.cell? ⟨g,o+j,none⟩=some (.string t))->uv 1 (fun(s:C3) g o=>fK w.heap.size w g o (.string s)) m g o:=by
   intro m
   induction m with
   |nil=>intro _ _;trivial
   |cons t r G=>
     intro o a
     exact⟨⟨E,a 0 t rfl⟩,G (o+1) fun j u d=>by
      rw[show o+1+j=o+(j+1)by omega]
      exact a (j+1) u Uz⟩
  exact x l 0 D
theorem K0:(Tryz.prog.info? 9).map (fun i=>(i.zero,i.size,i.bytes))=some (some (.string ⟨#[]⟩),1,16):=by kernel_rfl
theorem oH{α β:Type}{f:α->β}{l:List α}{j:Nat}{x:α}(h:l[j]?=some x):(l.take (j+1)).map f=(l.take j).map f++[f x]:=by
 rw[Yt,h];simp
theorem vw(B:Nat)(p:Pr)(ab ad:C5)(w:C4)(R:B<=w.heap.size)(A:gN B w ab p.wa)(C:gO B w ad p.funcs)(_:p.wa.length<=1000000)(_:p.funcs.length<=1000000):
 Cz 64 #[.agg #[ab,ad]] w fun e w'=>∃v,e=.returned v/\RJ w'.heap.size w' v (p.wa.map (·.name)++p.funcs.map (·.name))/\Cy w w':=by
 obtain⟨ae,al,rfl,_⟩:=A.form;obtain⟨af,am,rfl,_⟩:=C.form;obtain⟨aa,T,X,Y,Z⟩:=info_parts K0;have d:=U (Dt T (Dt X (Dt Y Z)));have ag:=U A;have ah:=U C;clear A C T X Y Z;go_enter func64,ntmps64;go_wp2_with fail
 go_loopw [3,11] (fun F iv wr=>∃j:Nat,j<=p.wa.length/\iv=.int .i64 j/\wr.ownsRow (w.heap.size+1) 9 1 F j (((p.wa.take j).map (·.name)).map Value.string)/\wr.heap[w.heap.size]?=some (qQ ae p.wa.length al af p.funcs.length am)/\Cy w wr/\w.heap.size+1<=wr.heap.size) (fun _ iv _=>p.wa.length-(intOf iv).toNat)
 case atStart=>exact⟨0,Dx _,rfl,Yp _ _ _ _,Ds _ _,Zb.alloc Zr _,Uj⟩
 case round=>
  obtain⟨j,ap,rfl,b,r,c,aq⟩:=hrel;obtain⟨s,z,rfl⟩:=jE b;obtain⟨⟨_,_⟩,_⟩:=zG r;have ai:=U b;have ak:=U r;have K:=U c;by_cases E:j<p.wa.length
  .obtain⟨a,i⟩:∃e,p.wa[j]?=some e:=⟨_,Dz E⟩
   obtain⟨g,o,rfl,an,ar,au⟩:=(ag.o.below (c.mono R) Zr).cells i;have ao:g<wr.heap.size:=O
   have y:=U i;have x:=U (qX (qX b (.cells #[a.name,(a.size:Int)] 80)) (.cells #[a.name] 9));have t:=U (jg (wr.alloc (.cells #[a.name,(a.size:Int)] 80)) [.string a.name] 9 (wr.heap.size+1) Uh);clear i b r c
   go_wp2_with (at_builtin;refine wpList_append_own _ rfl (.tmp 15) (.tmp 18) _ rfl (w.heap.size+1) 9 aa _ 1 16 underlying59 d.o.1 d.o.2.1 d.o.2.2.1 d.o.2.2.2 rfl O (.slice s j z) j _ rfl (by exact x.o) ⟨wr.heap.size+1,0,none⟩ 1 1 [.string a.name] rfl rfl (by exact t.o) Um Ul O Ug ?_
                intro av aw n m _;have l:=U m;have u:=U n
                clear n m)
   go_roundw
   case rel=>
    have q:∀k,(Value.slice s j z).ownBlock=some k->w.heap.size+1<=k:=fun k f=>(zP ai.o k f).1
    refine⟨j+1,O,by go_num,?_,?_,((K.o.alloc O _).alloc Ug _).grown l.o Ug fun k f=>by have:=q k f;omega,?_⟩
    .rw[oH y.o,Yj]
     exact u.o
    .exact(l.o.block _ Ug (fun e=>by have:=q _ e.symm;omega)).trans ((D7 _ _ _ Ug).trans ((D7 _ _ _ O).trans ak.o))
    .have:=l.o.size
     simp at this;omega
   case measure=>simp[intOf];omega
  .have D:j=p.wa.length:=by omega
   subst D;have aj:=U (show wr.ownsRow (w.heap.size+1) 9 1 (.slice s p.wa.length z) p.wa.length ((p.wa.map (·.name)).map Value.string)by rw[Ye Zr]at b;exact b);clear b c r;go_wp2_with fail
   go_loopw [3,24] (fun F iv G=>∃j:Nat,j<=p.funcs.length/\iv=.int .i64 j/\G.ownsRow (w.heap.size+1) 9 1 F (p.wa.length+j) ((p.wa.map (·.name)++(p.funcs.take j).map (·.name)).map Value.string)/\Cy w G/\w.heap.size+1<=G.heap.size) (fun _ iv _=>p.funcs.length-(intOf iv).toNat)
   case atStart=>exact⟨0,Dx _,rfl,by simpa using aj.o,K.o,aq⟩
   case round=>
    obtain⟨j,ap,rfl,b,c,_⟩:=hrel;obtain⟨H,N,rfl⟩:=jE b;have M:=U b;have L:=U c;by_cases E:j<p.funcs.length
    .obtain⟨a,i⟩:∃e,p.funcs[j]?=some e:=⟨_,Dz E⟩
     obtain⟨g,o,_,_,rfl,an,ar,au,_,_,W,S⟩:=(ah.o.below (c.mono R) Zr).cells i;obtain⟨I,P,rfl,_⟩:=W.form;obtain⟨J,Q,rfl,_⟩:=S.form;have y:=U i;have ao:g<wr.heap.size:=O
     have x:=U (qX (qX b (.cells #[a.name,(a.type:Int),(I,a.params.length,P),(J,a.body.length,Q)] 93)) (.cells #[a.name] 9));have t:=U (jg (wr.alloc (.cells #[a.name,(a.type:Int),(I,a.params.length,P),(J,a.body.length,Q)] 93)) [.string a.name] 9 (wr.heap.size+1) Uh);clear i b c W S
     go_wp2_with (at_builtin;refine wpList_append_own _ rfl (.tmp 28) (.tmp 31) _ rfl (w.heap.size+1) 9 aa _ 1 16 underlying59 d.o.1 d.o.2.1 d.o.2.2.1 d.o.2.2.2 rfl O (.slice H (p.wa.length+j) N) (p.wa.length+j) _ rfl (by exact x.o) ⟨wr.heap.size+1,0,none⟩ 1 1 [.string a.name] rfl rfl (by exact t.o) Um Ul O Ug ?_
                  intro av aw n m _;have l:=U m;have u:=U n
                  clear n m)
     go_roundw
     case rel=>
      have q:∀k,(Value.slice H (p.wa.length+j) N).ownBlock=some k->w.heap.size+1<=k:=fun k f=>(zP M.o k f).1
      refine⟨j+1,O,by go_num,?_,((L.o.alloc O _).alloc Ug _).grown l.o Ug fun k f=>by have:=q k f;omega,?_⟩
      .rw[oH y.o,<-Ya,Yj]
       exact u.o
      .have:=l.o.size
       simp at this;omega
     case measure=>simp[intOf];omega
    .have D:j=p.funcs.length:=by omega
     subst D;clear b c;go_wp2_with fail;go_ret;refine⟨_,rfl,?_,L.o⟩;have V:=M.o;rw[Ye Zr]at V;exact AM V Uh Ug
theorem lE(B:Nat)(p:Pr)(r:Bool)(G H:C5)(w:C4)(D:B<=w.heap.size)(u:gN B w G p.wa)(v:gO B w H p.funcs)(F:xg p=r):
 Cz 65 #[.agg #[G,H]] w (Cw r w):=by
 obtain⟨i,q,rfl,_⟩:=u.form;obtain⟨j,s,rfl,_⟩:=v.form;have y:=U (u.below ((D4 B w).alloc D (qQ i p.wa.length q j p.funcs.length s)) Zr);have l:=U (v.below ((D4 B w).alloc D (qQ i p.wa.length q j p.funcs.length s)) Zr);have C:=U F;clear u v F;cases hk:qP p.funcs ⟨#[109,97,105,110]⟩with
 |none=>
   have m:=U (show jy (qP p.funcs ⟨#[109,97,105,110]⟩)= -1 by rw[hk];rfl);have n:=U (show xg p=false by unfold xg jU;rw[hk];rfl);clear hk;go_enter func65,ntmps65;go_wp2_with (go_at_call 87;(with_reducible refine(mI B p _ _ m.o _ _ _ Ug y.o l.o).mono ?_);rintro e d ⟨rfl,a⟩);go_ret;exact⟨zC (by rw[<-C.o,n.o]),(Zb.alloc Zr _).trans (a.mono Uh)⟩
 |some k=>
   obtain⟨f,c,_,_⟩:=xt hk;have m:=U (show jy (qP p.funcs ⟨#[109,97,105,110]⟩)=(k:Int)by rw[hk];rfl);have n:=U (show xg p=(decide (f.type=1)&&decide (f.params.length=0))by unfold xg jU;rw[hk,Option.bind_some,c]);have J:=U c;have S:k<p.funcs.length:=(List.getElem?_eq_some_iff.1 c).1;clear hk c;have L:f.type=1/\f.params.length=0\/f.type=1/\f.params.length≠0\/f.type≠1:=O
   rcases L with⟨b,t⟩|⟨b,t⟩|b
   all_goals
    have z:=U b
    try have A:=U t
    try clear t
    clear b;go_enter func65,ntmps65
    go_wp2_with (go_at_call 87;(with_reducible refine(mI B p _ _ m.o _ _ _ Ug y.o l.o).mono ?_);rintro e d ⟨rfl,a⟩
                 have x:=(a.block w.heap.size Uh).trans (Ds w (qQ i p.wa.length q j p.funcs.length s));obtain⟨⟨_,_⟩,_⟩:=zG x;have T:w.heap.size<d.heap.size:=zB x;obtain⟨g,o,_,_,rfl,_,_,M,N,_,E,K⟩:=(l.o.below (a.mono Ug) Zr).cells J.o;obtain⟨_,_,rfl,_⟩:=E.form;have R:g<d.heap.size:=O
                 have I:=C2 (Cy w d) ((Zb.alloc Zr _).trans (a.mono Uh))
                 try rw[z.o]at M
                 try rw[A.o]at N
                 clear a x E K)
    all_goals go_ret
    all_goals refine⟨zC ?_,I.o⟩
    all_goals
     rw[<-C.o,n.o];have P:=z.o
     try have Q:=A.o
     simp_all
abbrev FH(s:C3)(t:Int)(a b:C5):Obj:=.cells #[s,(t:Int),a,b] 93
theorem bdW{B:Nat}{a:C4}(h:Below B a w)(n:Nat):Below B a (w.drewN n):=h.trans ⟨rfl,rfl,rfl,D0 _,fun _ _=>rfl⟩
theorem RK(h:lM f.params=true):yl p f=(50,0):=by unfold yl;rw[Dq h]
theorem NA(a:lM f.params=false){R:Int×Nat}(c:zX p f.type f.body f.params f.params.length false 0=R)(b:R.1≠0):yl p f=R:=by
 unfold yl;rw[Dp (by rw[a];decide),c,Dq b]
theorem RL(a:lM f.params=false)(b:zX p f.type f.body f.params f.params.length false 0=(0,n)):yl p f=if fV f.body then(0,0)else(52,n):=by
 unfold yl;rw[Dp (by rw[a];decide),b,Dp (show ¬(0 :Int)≠0 by decide)]
theorem oI(b:f5 p=true)(c:f∈p.funcs):fL f.body 100=true/\f.params.length<=8:=by
 unfold f5 at b;rw[D2,Y9,Y9]at b;have a:=b.2 f c;unfold yj at a;simp only[D2,decide_eq_true_eq]at a;exact⟨a.2,a.1.1.2⟩
theorem mN(B:Nat)(p:Pr)(f:Fu)(ab:f5 p=true)(aF:KY p)(aa:f∈p.funcs)(bc bd be bf:C5)(w:C4)(q:B<=w.heap.size)(az:gN B w bc p.wa)(aC:gO B w bd p.funcs)(aE:gU B w be f.params)(aA:f6 B w bf f.body)(r:Int×Nat)(a3:yl p f=r):
 Cz 66 #[.agg #[bc,bd],.agg #[f.name,(f.type:Int),be,bf]] w (Cw (.tuple #[(r.1:Int),(fX r.2:Int)]) w):=by
 obtain⟨b,d,rfl,_⟩:=az.form;obtain⟨c,i,rfl,_⟩:=aC.form;obtain⟨E,G,rfl,_⟩:=aE.form;obtain⟨F,H,rfl,_⟩:=aA.form;obtain⟨bG,a1,a6,a7,a8⟩:=info_parts K0;have bJ:=(oI ab aa).2;have X:=U (Dt a1 (Dt a6 (Dt a7 a8)));have aI:=U az;have aK:=U aC;have ap:=U aE;have aj:=U aA;have aq:=U a3;have Y:=U (oI ab aa).1;have aL:=U (II ab);have bm:=U (aF.2 f aa).2;have aX:Cy w ((w.alloc (qQ b p.wa.length d c p.funcs.length i)).alloc (FH f.name f.type (.slice E f.params.length G) (.slice F f.body.length H))):=(Zb.alloc Zr _).alloc Uh _;have bn:=U aX;have aN:=C2 (((w.alloc (qQ b p.wa.length d c p.funcs.length i)).alloc (FH f.name f.type (.slice E f.params.length G) (.slice F f.body.length H))).heap[w.heap.size]?=some (qQ b p.wa.length d c p.funcs.length i)) ((D7 _ _ _ Uh).trans (Ds w _));have aO:=C2 (((w.alloc (qQ b p.wa.length d c p.funcs.length i)).alloc (FH f.name f.type (.slice E f.params.length G) (.slice F f.body.length H))).heap[w.heap.size+1]?=some (FH f.name f.type (.slice E f.params.length G) (.slice F f.body.length H))) (by simpa using Ds (w.alloc (qQ b p.wa.length d c p.funcs.length i)) (FH f.name f.type (.slice E f.params.length G) (.slice F f.body.length H)));clear az aC aE aA a3 a1 a6 a7 a8 ab aF aa aX;go_enter func66,ntmps66;go_wp2_with fail
 go_loopw [6,14] (fun bH iv wr=>∃j:Nat,j<=f.params.length/\iv=.int .i64 j/\wr.ownsRow (w.heap.size+1+1) 9 1 bH j (((f.params.take j).map (·.name)).map Value.string)/\Below (w.heap.size+1+1) ((w.alloc (qQ b p.wa.length d c p.funcs.length i)).alloc (FH f.name f.type (.slice E f.params.length G) (.slice F f.body.length H))) wr) (fun _ iv _=>f.params.length-(intOf iv).toNat)
 case atStart=>exact⟨0,Dx _,rfl,Yp _ _ _ _,D4 _ _⟩
 case round=>
  obtain⟨j,_,rfl,K,A⟩:=hrel;have aF:w.heap.size+1+1<=wr.heap.size:=by have:=A.size;simpa using this
  have ae:Cy w wr:=bn.o.trans (A.mono O);obtain⟨af,ay,rfl⟩:=jE K;obtain⟨⟨a9,ba⟩,bb⟩:=zG ((A.block w.heap.size O).trans aN.o);obtain⟨⟨aT,f1,aU,f3⟩,aV⟩:=zO ((A.block (w.heap.size+1) O).trans aO.o);have a4:w.heap.size<wr.heap.size:=O
  have ad:w.heap.size+1<wr.heap.size:=O
  have bj:=U K;have bg:=U A;have au:=U ae;by_cases bx:j<f.params.length
  .obtain⟨L,aG⟩:∃e,f.params[j]?=some e:=⟨_,Dz bx⟩
   obtain⟨g,o,rfl,_,_,_⟩:=(ap.o.below (ae.mono q) Zr).cells aG;have bK:g<wr.heap.size:=O
   have bp:=U aG;have bl:=U (qX (qX K (.cells #[L.name,(L.type:Int)] 100)) (.cells #[L.name] 9));have bi:=U (jg (wr.alloc (.cells #[L.name,(L.type:Int)] 100)) [.string L.name] 9 (wr.heap.size+1) Uh);clear aG K A ae
   go_wp2_with (at_builtin;refine wpList_append_own _ rfl (.tmp 18) (.tmp 21) _ rfl (w.heap.size+1+1) 9 bG _ 1 16 underlying59 X.o.1 X.o.2.1 X.o.2.2.1 X.o.2.2.2 rfl O (.slice af j ay) j _ rfl (by exact bl.o) ⟨wr.heap.size+1,0,none⟩ 1 1 [.string L.name] rfl rfl (by exact bi.o) Um Ul O Ug ?_
                intro _ n a2 a0 _;have bh:=U a0;have bk:=U a2
                clear a2 a0)
   go_roundw
   case rel=>
    have bz:∀k,(Value.slice af j ay).ownBlock=some k->w.heap.size+1+1<=k:=fun k aD=>(zP bj.o k aD).1
    refine⟨j+1,O,by go_num,?_,((bg.o.alloc O _).alloc Ug _).grown bh.o Ug fun k aD=>bz k aD⟩;rw[oH bp.o,Yj];exact bk.o
   case measure=>simp[intOf];omega
  .have bw:j=f.params.length:=by omega
   subst bw;have am:=C2 (RJ wr.heap.size wr (.slice af f.params.length ay) (f.params.map (·.name))) (AM (by rw[Ye Zr]at K;exact K) Uh Ug)
   have ax:=U (show ∀s∈f.params.map (·.name),s.size<=maxLen from fun s bA=>by
    obtain⟨x,bF,rfl⟩:=List.mem_map.1 bA
    exact bm.o x bF)
   obtain⟨dp,aB⟩:=C0 (lM f.params);have ak:=U aB;have an:=U (show nod (f.params.map (·.name))= !dp by rw[sH,aB]);have aQ:=U ((A.block w.heap.size O).trans aN.o);have Z:=U ((A.block (w.heap.size+1) O).trans aO.o);clear K A ae aB;cases dp
   case true=>
    go_wp2_with (go_at_call 63;(with_reducible refine(kb wr.heap.size _ _ _ _ Zr am.o ax.o an.o).mono ?_);rintro e a ⟨rfl,l⟩)
    go_ret2
    have m:=RK (p:=p) ak.o;rw[aq.o]at m;subst m;exact⟨rfl,au.o.trans (l.mono O)⟩
   case false=>
    obtain⟨⟨bv,n1⟩,aY⟩:=C0 (zX p f.type f.body f.params f.params.length false 0);have W:=U aY;obtain⟨bt,aW⟩:=C0 (fV f.body);have V:=U aW;clear aY aW;by_cases aZ:bv=0
    case neg=>
     go_wp2_with (go_at_call 63;(with_reducible refine(kb wr.heap.size _ _ _ _ Zr am.o ax.o an.o).mono ?_);rintro e a ⟨rfl,l⟩
                  obtain⟨⟨a9,ba⟩,bb⟩:=zG ((l.block w.heap.size a4).trans aQ.o);obtain⟨⟨aT,f1,aU,f3⟩,aV⟩:=zO ((l.block (w.heap.size+1) ad).trans Z.o);have av:=U ((l.block (w.heap.size+1) ad).trans Z.o);have S:w.heap.size+1<a.heap.size:=Jy
                  have bC:w.heap.size<a.heap.size:=O
                  have N:=C2 (Cy w a) (au.o.trans (l.mono O))
                  clear l)
     have T:Cy a (a.alloc (E9 (.slice b p.wa.length d) (.slice c p.funcs.length i) f.type 0)).drew:=(Zb.alloc Zr _).drew;have ar:=U T;have ah:=C2 ((a.alloc (E9 (.slice b p.wa.length d) (.slice c p.funcs.length i) f.type 0)).drew.heap[a.heap.size]?=some (E9 (.slice b p.wa.length d) (.slice c p.funcs.length i) f.type (fX 0))) (Ds a _);have ao:=U (ap.o.below ((N.o.trans (T.mono O)).mono q) Zr)
     go_region_held3 (fun w'=>w'.cell? (w.heap.size+1,2)=some (.slice E f.params.length G)/\w'.cell? (w.heap.size+1,3)=some (.slice F f.body.length H))
      (first
        |(go_split_ands;refine⟨?_,?_⟩ <;>(first|(rw[R];assumption)|(rw[J];assumption)))
        |go_keep)
      (first
        | (go_at_call 89
           (refine(y8 (a.alloc (E9 (.slice b p.wa.length d) (.slice c p.funcs.length i) f.type 0)).drew (a.heap.size+1) (a.heap.size+1) B (.pointer none) (.pointer none) [] f.params _ Xe Xe (i1.nil _ _) Xe (hR.none _ _ _ _ Zr) ao.o).mono ?_)
           rintro e n ⟨v',rfl,D,y⟩;obtain⟨aH,rfl⟩:=(D.fin (i1.nil _ _)).form;have z:Cy a n:=ar.o.trans (y.mono Xe);have J:∀x,n.cell? ⟨w.heap.size+1,x,none⟩=a.cell? ⟨w.heap.size+1,x,none⟩:=fun x=>z.cell (p:=⟨w.heap.size+1,x,none⟩) S
           have bD:a.heap.size+1<=n.heap.size:=Dy (Dv (zA _ _).symm) y.size;have Q:=(y.block a.heap.size Gx).trans ah.o;have ai:=U Q;have t:Cy w n:=N.o.trans (z.mono O);have P:=U t;have al:=C2 (wR B (a.heap.size+1) p f.params (.slice b p.wa.length d) (.slice c p.funcs.length i) (.pointer aH) n) ⟨O,O,aI.o.below (t.mono q) Zr,aK.o.below (t.mono q) Zr,by rw[Yd]at D;exact D⟩;have ag:=U (aj.o.below (t.mono q) Zr);have aw:=U ((z.block (w.heap.size+1) S).trans av.o)
           clear D y z Q t)
        | (go_at_call 88
           (refine((sF 100).call Y.o aL.o W.o al.o O O ai.o ag.o).mono ?_)
           rintro e u ⟨rfl,C,I⟩;have R:∀x,u.cell? ⟨w.heap.size+1,x,none⟩=n.cell? ⟨w.heap.size+1,x,none⟩:=fun x=>C.cell O O
           have J:∀x,u.cell? ⟨w.heap.size+1,x,none⟩=a.cell? ⟨w.heap.size+1,x,none⟩:=fun x=>(R x).trans (J x)
           obtain⟨⟨bq,br,bs,aR⟩,bu⟩:=zO I;have a5:a.heap.size<u.heap.size:=zB I;have v:=C2 (Cy w u) (P.o.trans (kZ C P.o.size O));have aP:=U ((C.block (k:=w.heap.size+1) O O).trans aw.o)
           clear C I))
     go_wp2_with fail
     go_quiet (fail)
     go_wp2_with fail
     go_ret2
     have m:=NA (p:=p) ak.o W.o aZ;rw[aq.o]at m;subst m;exact⟨rfl,bdW v.o _⟩
    case pos=>
     subst aZ
     go_wp2_with (go_at_call 63;(with_reducible refine(kb wr.heap.size _ _ _ _ Zr am.o ax.o an.o).mono ?_);rintro e a ⟨rfl,l⟩
                  obtain⟨⟨a9,ba⟩,bb⟩:=zG ((l.block w.heap.size a4).trans aQ.o);obtain⟨⟨aT,f1,aU,f3⟩,aV⟩:=zO ((l.block (w.heap.size+1) ad).trans Z.o);have av:=U ((l.block (w.heap.size+1) ad).trans Z.o);have S:w.heap.size+1<a.heap.size:=Jy
                  have bC:w.heap.size<a.heap.size:=O
                  have N:=C2 (Cy w a) (au.o.trans (l.mono O))
                  clear l)
     have T:Cy a (a.alloc (E9 (.slice b p.wa.length d) (.slice c p.funcs.length i) f.type 0)).drew:=(Zb.alloc Zr _).drew;have ar:=U T;have ah:=C2 ((a.alloc (E9 (.slice b p.wa.length d) (.slice c p.funcs.length i) f.type 0)).drew.heap[a.heap.size]?=some (E9 (.slice b p.wa.length d) (.slice c p.funcs.length i) f.type (fX 0))) (Ds a _);have ao:=U (ap.o.below ((N.o.trans (T.mono O)).mono q) Zr)
     go_region_held3 (fun w'=>w'.cell? (w.heap.size+1,2)=some (.slice E f.params.length G)/\w'.cell? (w.heap.size+1,3)=some (.slice F f.body.length H))
      (first
        |(go_split_ands;refine⟨?_,?_⟩ <;>(first|(rw[R];assumption)|(rw[J];assumption)))
        |go_keep)
      (first
        | (go_at_call 89
           (refine(y8 (a.alloc (E9 (.slice b p.wa.length d) (.slice c p.funcs.length i) f.type 0)).drew (a.heap.size+1) (a.heap.size+1) B (.pointer none) (.pointer none) [] f.params _ Xe Xe (i1.nil _ _) Xe (hR.none _ _ _ _ Zr) ao.o).mono ?_)
           rintro e n ⟨v',rfl,D,y⟩;obtain⟨aH,rfl⟩:=(D.fin (i1.nil _ _)).form;have z:Cy a n:=ar.o.trans (y.mono Xe);have J:∀x,n.cell? ⟨w.heap.size+1,x,none⟩=a.cell? ⟨w.heap.size+1,x,none⟩:=fun x=>z.cell (p:=⟨w.heap.size+1,x,none⟩) S
           have bD:a.heap.size+1<=n.heap.size:=Dy (Dv (zA _ _).symm) y.size;have Q:=(y.block a.heap.size Gx).trans ah.o;have ai:=U Q;have t:Cy w n:=N.o.trans (z.mono O);have P:=U t;have al:=C2 (wR B (a.heap.size+1) p f.params (.slice b p.wa.length d) (.slice c p.funcs.length i) (.pointer aH) n) ⟨O,O,aI.o.below (t.mono q) Zr,aK.o.below (t.mono q) Zr,by rw[Yd]at D;exact D⟩;have ag:=U (aj.o.below (t.mono q) Zr);have aw:=U ((z.block (w.heap.size+1) S).trans av.o)
           clear D y z Q t)
        | (go_at_call 88
           (refine((sF 100).call Y.o aL.o W.o al.o O O ai.o ag.o).mono ?_)
           rintro e u ⟨rfl,C,I⟩;have R:∀x,u.cell? ⟨w.heap.size+1,x,none⟩=n.cell? ⟨w.heap.size+1,x,none⟩:=fun x=>C.cell O O
           have J:∀x,u.cell? ⟨w.heap.size+1,x,none⟩=a.cell? ⟨w.heap.size+1,x,none⟩:=fun x=>(R x).trans (J x)
           obtain⟨⟨bq,br,bs,aR⟩,bu⟩:=zO I;have a5:a.heap.size<u.heap.size:=zB I;have v:=C2 (Cy w u) (P.o.trans (kZ C P.o.size O));have aP:=U ((C.block (k:=w.heap.size+1) O O).trans aw.o)
           clear C I))
     obtain⟨⟨_,_,_,_⟩,_⟩:=zO aP.o;have bL:w.heap.size+1<u.heap.size:=O
     have aJ:=U (aj.o.below (v.o.mono q) Zr);have m:=RL (p:=p) ak.o W.o;rw[aq.o]at m;have aM:=U m;clear m;cases bt
     case true=>
      go_wp2_with (go_at_call 90;(with_reducible refine((sC 100).call Y.o V.o (Dy q v.o.size) aJ.o).mono ?_);rintro e w8 ⟨rfl,M⟩)
      go_ret2
      have m:=aM.o;rw[V.o]at m;subst m;exact⟨rfl,v.o.trans (M.mono v.o.size)⟩
     case false=>
      go_wp2_with (go_at_call 90;(with_reducible refine((sC 100).call Y.o V.o (Dy q v.o.size) aJ.o).mono ?_);rintro e w8 ⟨rfl,M⟩
                   have aS:w8.cell? (a.heap.size,2+1)=some (.int .i64 (fX n1)):=(M.cell (p:=(a.heap.size,3)) a5).trans aR;have bI:w8.cell? (a.heap.size,3)=some (.int .i64 (fX n1)):=aS;have bM:a.heap.size<w8.heap.size:=by have:=M.size;omega
                   have bo:=C2 (Cy w w8) (v.o.trans (M.mono v.o.size))
                   clear M aS)
      go_quiet (fail)
      go_wp2_with fail
      go_ret2
      have m:=aM.o;rw[V.o]at m;subst m;exact⟨rfl,bdW bo.o _⟩
theorem zAe{tf:List Pa}{op n:Int}{td:C3}{tc:List Ex}(a:(qE p tf (.mk k op n td tc)).2=0):kO p tf k td=true/\xS p k td tc.length=true/\∃l,qI p tf tc=.inr l:=by
 rw[qE]at a;by_cases b:kO p tf k td=false
 .rw[Dq b]at a;exact absurd a Xw
 rw[Dp b]at a;by_cases c:xS p k td tc.length=false
 .rw[Dq c]at a;exact absurd a (by show(51 :Int)≠0;decide)
 rw[Dp c]at a;refine⟨Up,Uy,?_⟩;cases hr:qI p tf tc with
 |inl x=>rw[hr]at a;exact absurd a (AD hr)
 |inr l=>exact⟨l,rfl⟩
theorem ub{tf:List Pa}:∀{l:List Ex}{c:List Int},qI p tf l=.inr c->∀e∈l,(qE p tf e).2=0
 |[],_,_,e,a=>Uo
 | x::r,c,h,e,a=>by
   rw[qI]at h;by_cases b:(qE p tf x).2=0
   .rw[Dp Up]at h
    cases hr:qI p tf r with
    |inl _=>rw[hr]at h;cases h
    |inr l=>
      rcases List.mem_cons.1 a with rfl|a
      .exact b
      .exact ub hr e a
   .rw[Dq b]at h;cases h
theorem sI{tf:List Pa}{l:List Ex}(h:∀e∈l,(qE p tf e).2=0)(i:Nat):(qE p tf (l.getD i j8)).2=0:=by
 rw[Yl];cases hi:l[i]? with
 |none=>rfl
 |some e=>exact h e (Yc hi)
theorem x9{tf:List Pa}{e:Ex}{t:Int}(a:jP p tf e t=0):(qE p tf e).2=0:=by
 unfold jP at a;by_cases b:(qE p tf e).2=0
 .exact b
 .rw[Dp b]at a;exact a
theorem CX{td:C3}{m n o:Nat}{l:Bool}(a:zn k ty td m n o l=true):k=1\/k=2\/k=3\/k=4\/k=5\/k=6\/k=7\/k=8\/k=9\/k=10:=by
 unfold zn at a;by_cases b:k=1;· omega
 by_cases d:k=2;· omega
 by_cases e:k=3;· omega
 by_cases f:k=4;· omega
 by_cases g:k=5;· omega
 by_cases i:k=6\/k=7;· omega
 by_cases j:k=8\/k=9;· omega
 by_cases c:k=10;· omega
 rw[Dp b,Dp d,Dp e,Dp f,Dp g,Dp i,Dp j,Dp c]at a;cases a
theorem K1{f:Ex->RS->fS Int}:∀{l:List Ex}{s t:RS}{q:List Int},i0 f l s=.ok q t->q.length=l.length
 |[],s,t,q,h=>by rw[i0]at h;injection h with h _;subst h;rfl
 | e::r,s,t,q,h=>by
   rw[i0]at h;cases hx:f e s with
   |fin u=>rw[hx]at h;cases h
   |ok a u=>
     rw[hx]at h;have h:(i0 f r u).bind (fun l s=>fS.ok (a::l) s)=.ok q t:=h;cases hy:i0 f r u with
     |fin v=>rw[hy]at h;cases h
     |ok b v=>
       rw[hy]at h;injection h with h _;rw[<-h,D1,D1,K1 hy]
def gL(p:Pr):Prop:=∀f∈p.funcs,(zX p f.type f.body f.params f.params.length false 0).1=0/\fL f.body 100=true
theorem hY{s:C3}(h:jU p s=some f):f∈p.funcs:=by
 unfold jU at h;cases hk:qP p.funcs s with
 |none=>rw[hk]at h;cases h
 |some k=>rw[hk]at h;exact Yc h
theorem sJ{td:C3}{tc:List Ex}{tg th:List St}{v:List Pa}{frm:Nat}{ti:Bool}(a:(yt p ft (.mk k ty td tc tg th) v frm ti n).1=0):
 jH p ft k ty td tc v frm ti=0/\(∃d n1,(zX p ft tg (jf k ty td v) (jf k ty td v).length d n1).1=0)/\∃e n2,(zX p ft th (jf k ty td v) (jf k ty td v).length e n2).1=0:=by
 rw[yt]at a;by_cases b:jH p ft k ty td tc v frm ti=0
 .rw[Dp Up]at a
  by_cases c:(zX p ft tg (jf k ty td v) (jf k ty td v).length (ti || decide (k=5)) (n+1)).1=0
  .rw[Dp Uy]at a
   exact⟨b,⟨_,_,c⟩,_,_,a⟩
  .rw[Dq c]at a;exact absurd a c
 .rw[Dq b]at a;exact absurd a b
theorem vx{st:St}{r:List St}{v:List Pa}{frm:Nat}{ti:Bool}(a:(zX p ft (st::r) v frm ti n).1=0):
 (yt p ft st v frm ti n).1=0/\∃n1,(zX p ft r (ID st v) frm ti n1).1=0:=by
 rw[zX]at a;by_cases b:(yt p ft st v frm ti n).1=0
 .rw[Dp Up]at a;exact⟨b,_,a⟩
 .rw[Dq b]at a;exact absurd a b
theorem i4{td:C3}{tc:List Ex}{v:List Pa}{frm:Nat}{ti:Bool}(a:jH p ft k ty td tc v frm ti=0)(_:1<=k/\k<=10)(_:k≠6)(_:k≠7):
 (qE p v (tc.getD 0 j8)).2=0/\(k=3->(qE p v (tc.getD 1 j8)).2=0)/\(k=2->∃t,zv v td=some t):=by
 unfold jH at a;by_cases c:k=1
 .rw[Dq c]at a
  by_cases b:jP p v (tc.getD 0 j8) ty=0
  .exact⟨x9 b,fun _=>O,fun _=>O⟩
  .rw[Dp b]at a;exact absurd a b
 rw[Dp c]at a;by_cases d:k=2
 .rw[Dq d]at a
  cases hv:zv v td with
  |none=>rw[hv]at a;exact absurd a Xw
  |some t=>rw[hv]at a;exact⟨x9 a,fun _=>O,fun _=>⟨t,rfl⟩⟩
 rw[Dp d]at a;by_cases e:k=3
 .rw[Dq e]at a
  by_cases j:(zZ p.wa td).isSome=true
  .rw[Dq j]at a
   by_cases b:jP p v (tc.getD 0 j8) 1=0
   .rw[Dq b]at a
    exact⟨x9 b,fun _=>x9 a,fun _=>O⟩
   .rw[Dp b]at a;exact absurd a b
  .rw[Dp j]at a;exact absurd a Uf
 rw[Dp e]at a;by_cases f:k=4\/k=5
 .rw[Dq f]at a;exact⟨x9 a,fun _=>O,fun _=>O⟩
 rw[Dp f]at a;by_cases g:k=8
 .rw[Dq g]at a;exact⟨x9 a,fun _=>O,fun _=>O⟩
 rw[Dp g]at a;by_cases i:k=9
 .rw[Dq i]at a;exact⟨x9 a,fun _=>O,fun _=>O⟩
 rw[Dp i]at a;by_cases l:k=10
 .rw[Dq l]at a;exact⟨a,fun _=>O,fun _=>O⟩
 omega
structure gQ (p:Pr) (s:RS):Prop where
 len:s.arr.length=p.wa.length
 sp:s.spent=false
 st:s.stat=0
theorem gQ.pay(h:gQ p s):gQ p (zV s):=⟨h.len,h.sp,h.st⟩
def zr{α:Type}(p:Pr):fS α->Prop
 |.ok _ t=>gQ p t
 |.fin t=>(t.spent=true/\t.stat=0/\t.fuel=0)\/(t.spent=false/\2<=t.stat/\t.stat<=4)
theorem zr.ok{α:Type}{a:α}(h:gQ p s):zr p (.ok a s):=h
theorem zr.end{α:Type}(b:gQ p s)(k:Int)(a:2<=k/\k<=4):zr p (.fin (kR s k):fS α):=.inr ⟨b.sp,a.1,a.2⟩
theorem zr.bind{α β:Type}{x:fS α}{f:α->RS->fS β}(b:zr p x)(c:∀a t,x=.ok a t->gQ p t->zr p (f a t)):zr p (x.bind f):=by
 cases x with
 |fin t=>exact b
 |ok a t=>exact c a t rfl b
theorem zr.ite{α:Type}{c:Prop}[Decidable c]{x b:fS α}(d:c->zr p x)(e:¬c->zr p b):zr p (if c then x else b):=by
 by_cases a:c
 .rw[Dq a];exact d a
 .rw[Dp a];exact e a
theorem vy(a:gQ p s):zr p (zj s):=by
 obtain⟨_,_,out,_,b,_,_⟩:=s;cases b with
 |zero=>exact .inl ⟨rfl,a.st,rfl⟩
 |succ f=>exact⟨a.len,a.sp,a.st⟩
theorem mO{td:C3}(c:gQ p s){k:Nat}(a:zZ p.wa td=some k):∃l,s.arr[k]?=some l:=by
 have b:k<p.wa.length:=by
  have e:∀(l:List Ar) (k:Nat),zZ l td=some k->k<l.length:=by
   intro l
   induction l with
   |nil=>intro k a;cases a
   |cons x r d=>
     intro k a;rw[zZ]at a;split at a
     .injection a with a;subst a;exact Ce _
     .cases hr:zZ r td with
      |none=>rw[hr]at a;cases a
      |some j=>rw[hr]at a;injection a with a;have a:j+1=k:=a;have:=d j hr;rw[D1];omega
  exact e _ _ a
 exact⟨_,Dz (by rw[c.len];exact b)⟩
theorem IQ{td:C3}{i:Int}(a:gQ p s)(c:(zZ p.wa td).isSome=true):zr p (pG p td i s):=by
 obtain⟨k,b⟩:=Option.isSome_iff_exists.1 c;obtain⟨l,d⟩:=mO a b;unfold pG;rw[b];dsimp only;rw[d];exact zr.ite (fun _=>zr.ok a) fun _=>zr.end a 3 Uf
theorem IR{td:C3}{i n:Int}(a:gQ p s)(c:(zZ p.wa td).isSome=true):zr p (y7 p td i n s):=by
 obtain⟨k,b⟩:=Option.isSome_iff_exists.1 c;obtain⟨l,d⟩:=mO a b;unfold y7;rw[b];dsimp only;rw[d];exact zr.ite (fun _=>⟨by show(s.arr.set _ _).length=_;rw[Yw];exact a.len,a.sp,a.st⟩) fun _=>zr.end a 3 Uf
theorem FI(a:gQ p s):zr p (vN s):=by
 unfold vN;split
 .exact zr.end a 4 Uf
 .exact⟨a.len,a.sp,a.st⟩
theorem NB{v:List Pa}{c:Fu->List Int->RS->fS Int}{op n:Int}{td:C3}{l:List Int}{e:fG}(b:gQ p s)(d:kO p v k td=true)(o:∀g∈p.funcs,∀t,t.fuel=s.fuel->gQ p t->zr p (c g l t)):zr p (qR p c e k op n td l s):=by
 unfold qR;refine zr.ite (fun _=>zr.ok b) fun _=>zr.ite (fun _=>zr.ok b) fun _=>zr.ite (fun _=>zr.ok b.pay) fun _=>zr.ite (fun _=>zr.ite (fun _=>zr.ok b.pay) fun _=>zr.end b.pay 2 Uf) fun _=>zr.ite (fun f=>?_) fun f=>zr.ite (fun m=>?_) fun _=>FI b.pay
 .subst f
  unfold kO at d;exact IQ b.pay Uz
 .subst m
  unfold kO at d;have d:(qP p.funcs td).isSome=true:=Uz
  obtain⟨j,i⟩:=Option.isSome_iff_exists.1 d;cases hg:jU p td with
  |some g=>exact o g (hY hg) _ rfl b.pay
  |none=>
    exfalso;unfold jU at hg;rw[i]at hg
    have u:∀(l:List Fu) (k:Nat),qP l td=some k->k<l.length:=by
     intro l
     induction l with
     |nil=>intro k a;cases a
     |cons x r q=>
       intro k a;rw[qP]at a;split at a
       .injection a with a;subst a;exact Ce _
       .cases hr:qP r td with
        |none=>rw[hr]at a;cases a
        |some j=>rw[hr]at a;injection a with a;have a:j+1=k:=a;have:=q j hr;rw[D1];omega
    have:=u _ _ i;rw[show(some j).bind (fun k=>p.funcs[k]?)=p.funcs[j]? from rfl,List.getElem?_eq_none_iff]at hg;omega
theorem sK{f:Ex->RS->fS Int}(b:∀x s,zw s 0 (f x s)):∀(l:List Ex) (s:RS),s.fuel<=g->gQ p s->(∀x∈l,∀s,s.fuel<=g->gQ p s->zr p (f x s))->zr p (i0 f l s)
 |[],s,_,hs,_=>zr.ok hs
 | x::r,s,hf,hs,h=>by
   rw[i0];refine(h x (Y4 ..) s hf hs).bind fun a t e c=>(sK b r t (by have:=((b x s).at e).1;omega) c fun j i=>h j (Y7 _ i)).bind fun q u _ d=>zr.ok d
def WR(p:Pr)(g:Nat):Prop:=∀(v:List Pa) (e:fG) (x:Ex) (s:RS),s.fuel<=g->gQ p s->(qE p v x).2=0->zr p (f0 p g e x s)
def NC(p:Pr)(g:Nat):Prop:=∀(ft:Int) (st:St) (v:List Pa) (e:fG) (frm:Nat) (ti:Bool) (n:Nat) (s:RS) (m:Nat),s.fuel<=g->gQ p s->uP st m=true->(yt p ft st v frm ti n).1=0->zr p (qn p g e st s)
theorem AN(b:NC p g)(ft:Int):∀(l:List St) (v:List Pa) (e:fG) (frm:Nat) (ti:Bool) (n:Nat) (s:RS) (m:Nat),s.fuel<=g->gQ p s->fL l m=true->(zX p ft l v frm ti n).1=0->zr p (kH (qn p g) e l s)
 |[],v,e,frm,ti,n,s,m,_,hs,_,_=>zr.ok hs
 | st::r,v,e,frm,ti,n,s,m,hg,hs,hok,hc=>by
   rw[ks,D2]at hok;obtain⟨d,n1,f⟩:=vx hc;rw[kH];exact(b ft st v e frm ti n s m hg hs hok.1 d).bind fun a t i c=>zr.ite (fun _=>AN b ft r _ _ frm ti n1 t m (by have:=((ku p g e st s).at i).1;omega) c hok.2 f) fun _=>zr.ok c
theorem xi(b:NC p g)(ft:Int)(l:List St)(v:List Pa)(e:fG)(frm:Nat)(ti:Bool)(n:Nat)(s:RS)(m:Nat)(d:s.fuel<=g)(i:gQ p s)(f:fL l m=true)(c:(zX p ft l v frm ti n).1=0):zr p (qG (qn p g) e l s):=by
 unfold qG;exact(AN b ft l v e frm ti n s m d i f c).bind fun a t _ j=>zr.ok j
theorem FJ{b:fG->RS->fS Int}{B:fG->RS->fS xy}(f:∀e s,zw s 1 (b e s))(gB:∀e s,zw s 0 (B e s))(j:∀e s,s.fuel<=g->gQ p s->zr p (b e s))(i:∀e s,s.fuel<=g->gQ p s->zr p (B e s)):
 ∀(k:Nat) (e:fG) (s:RS),s.fuel<k->s.fuel<=g->gQ p s->zr p (k6 b B k e s)
 |0,_,s,h,_,_=>absurd h (Nat.not_lt_zero _)
 | k+1,e,s,h,hg,hs=>by
   rw[k6];refine(j e s hg hs).bind fun a t m l=>zr.ite (fun _=>zr.ok l) fun _=>?_
   have o:=((f e s).at m).1;refine(i e t O l).bind fun c u n d=>zr.ite (fun _=>zr.ok d) fun _=>zr.ite (fun _=>zr.ok d) fun _=>?_
   have q:=((gB e t).at n).1;exact FJ f gB j i k _ u O O d
theorem wZ(w:gL p)(c:WR p g)(y:NC p g):WR p (g+1):=by
 intro v e x s _ F f;obtain⟨k,op,n,td,tc⟩:=x;obtain⟨C,_,_,G⟩:=zAe f;have d:=ub G;rw[f0];refine(vy F).bind fun _ t j i=>?_
 have K:=(vA j).fuel;refine zr.ite (fun _=>?_) fun _=>?_
 .refine(c v e _ t O i (sI d 0)).bind fun a u B b=>zr.ite (fun _=>zr.ok b) fun _=>c v e _ u (by have:=((qw p g e _ t).at B).1;omega) b (sI d 1)
 .have r:=sK (p:=p) (g:=g) (fun x s=>(qw p g e x s).le (Dx _)) tc t O i fun x H s m o=>c v e x s m o (d x H)
  refine r.bind fun l u D b=>?_
  have L:=((mE (fun x s=>(qw p g e x s).le (Dx _)) tc t).at D).1;refine NB b C fun q E z _ A=>?_
  obtain⟨I,J⟩:=w q E;exact(xi y q.type q.body q.params (fN q l) _ _ _ z 100 O A J I).bind fun a t _ f=>zr.ok f
theorem w0(q:WR p g)(r:NC p g):NC p (g+1):=by
 intro ft st v e frm ti n s m _ L d J;have H:∀vs l s,zw s 0 (qG (qn p g) vs l s):=fun vs l s=>xh (fun vs t s=>(ku p g vs t s).le (Dx _)) vs l s
 obtain⟨k,ty,td,tc,tg,th⟩:=st;obtain⟨c,⟨_,n1,B⟩,_,n2,K⟩:=sJ J;rw[jp]at d;simp only[D2,decide_eq_true_eq]at d;have P:=CX d.1.1.1.2;rw[qn];refine(vy L).bind fun _ t y j=>?_
 have D:=(vA y).fuel;have Q:k≠1->jf k ty td v=v:=fun C=>by unfold jf;rw[Dp C]
 refine zr.ite (fun E=>?_) fun E=>zr.ite (fun _=>zr.ok j) fun F=>zr.ite (fun _=>zr.ok j) fun G=>?_
 .have i:=i4 c O O O
  exact FJ (g:=g) (fun e s=>qw p g e _ s) (fun e s=>H e tg s) (fun e s f o=>q v e _ s f o i.1) (fun e s f o=>xi r ft tg _ e _ _ _ s (m-1) f o d.1.2 B) _ e t (Nat.lt_succ_self _) O j
 have i:=i4 c O F G;refine(q v e _ t O j i.1).bind fun a u I b=>?_
 have f:=((qw p g e _ t).at I).1;refine zr.ite (fun _=>zr.ok b) fun y=>zr.ite (fun _=>zr.ok b) fun D=>zr.ite (fun z=>?_) fun _=>zr.ite (fun _=>zr.ite (fun _=>?_) fun _=>?_) fun _=>zr.ite (fun _=>zr.ok b) fun _=>zr.ite (fun _=>⟨b.len,b.sp,b.st⟩) fun _=>zr.ok b
 .refine(q v e _ u O b (i.2.1 z)).bind fun n w _ M=>(IR M.pay ?_).bind fun _ x _ N=>zr.ok N
  subst z;unfold jH at c;rw[Dp Uf,Dp Uf,Dq rfl]at c;by_cases A:(zZ p.wa td).isSome=true
  .exact A
  .rw[Dp A]at c;exact absurd c Uf
 .exact xi r ft tg _ e _ _ _ u (m-1) O b d.1.2 B
 .exact xi r ft th _ e _ _ _ u (m-1) O b d.2 K
theorem jW(p:Pr)(c:gL p):∀g,WR p g/\NC p g
 |0=>⟨fun v e x s f a _=>by rw[f0];exact .inl ⟨rfl,a.st,by show s.fuel=0;omega⟩,fun ft st v e frm ti n s m f a _ _=>by rw[qn];exact .inl ⟨rfl,a.st,by show s.fuel=0;omega⟩⟩
 | g+1=>by
   obtain⟨b,d⟩:=jW p c g;exact⟨wZ c b d,w0 b d⟩
structure fF (X:Nat->Prop) (w w':C4):Prop where
 os:w'.os=w.os
 tape:w'.tape=w.tape
 output:w'.output=w.output
 size:w.heap.size<=w'.heap.size
 block:∀k,k<w.heap.size->¬X k->w'.heap[k]?=w.heap[k]?
section
variable {X Y:Nat->Prop} {w w' w2:C4}
theorem fF.refl(X:Nat->Prop)(w:C4):fF X w w:=⟨rfl,rfl,rfl,D0 _,fun _ _ _=>rfl⟩
theorem fF.trans(a:fF X w w')(g:fF Y w' w2)(d:∀k,k<w.heap.size->Y k->X k):fF X w w2:=
 ⟨g.os.trans a.os,g.tape.trans a.tape,g.output.trans a.output,Dy a.size g.size,fun k b c=>(g.block k (Yb b a.size) fun e=>c (d k b e)).trans (a.block k b c)⟩
theorem fF.mono(a:fF X w w')(c:∀k,k<w.heap.size->X k->Y k):fF Y w w':=⟨a.os,a.tape,a.output,a.size,fun k b e=>a.block k b fun d=>e (c k b d)⟩
theorem fF.wb(X:Nat->Prop)(a:Cy w w'):fF X w w':=⟨a.os,a.tape,a.output,a.size,fun k b _=>a.block k b⟩
theorem fF.below(a:fF X w w'){B:Nat}(c:B<=w.heap.size)(d:∀k,k<B->¬X k):Below B w w':=⟨a.os,a.tape,a.output,a.size,fun k b=>a.block k (Yb b c) (d k b)⟩
theorem fF.set(w:C4){g:Nat}(a:X g)(i:Nat)(u:C5):fF X w (w.setCell (g,i) u):=
 ⟨rfl,rfl,rfl,Uk,fun k _ b=>Dw w _ u k (fun e=>b (by have e:k=g:=e;rw[e];exact a))⟩
theorem fF.alloc(X:Nat->Prop)(w:C4)(o:Obj):fF X w (w.alloc o):=fF.wb X (Zb.alloc Zr o)
theorem fF.drew(X:Nat->Prop)(w:C4):fF X w w.drew:=fF.wb X Zb.drew
theorem fF.grown{b:Option Nat}(a:w.grownBy w' b)(d:∀k,b=some k->X k):fF X w w':=⟨a.os,a.tape,a.output,a.size,fun k c f=>a.block k c fun e=>f (d k e.symm)⟩
theorem fF.at{k:Nat}{o:Obj}(b:fF X w w')(c:¬X k)(a:w.heap[k]?=some o):w'.heap[k]?=some o:=(b.block k (Array.getElem?_eq_some_iff.1 a).1 c).trans a
end
def fM(L:Nat)(v v':C5):Prop:=v'.ownBlock=v.ownBlock\/∃g,v'.ownBlock=some g/\L<=g
theorem fM.refl(L:Nat)(v:C5):fM L v v:=.inl rfl
theorem fM.trans{d:Nat}{x:C5}(a:fM L u v)(g:fM d v x)(e:L<=d):fM L u x:=by
 rcases g with g|⟨k,b,c⟩
 .rcases a with a|⟨k,b,c⟩
  .exact .inl (g.trans a)
  .exact .inr ⟨k,g.trans b,c⟩
 .exact .inr ⟨k,b,Dy e c⟩
theorem fM.mono{a:Nat}(b:fM a u v)(c:L<=a):fM L u v:=(fM.refl L u).trans b c
theorem fM.not{k:Nat}(a:fM L u v)(_:k<L)(c:u.ownBlock≠some k):v.ownBlock≠some k:=by
 rcases a with a|⟨g,b,_⟩
 .rw[a];exact c
 .rw[b];intro e;injection e with e;omega
theorem fM.old{k:Nat}(b:fM L u v)(_:k<L)(a:v.ownBlock=some k):u.ownBlock=some k:=by
 rcases b with b|⟨g,c,_⟩
 .rw[<-b];exact a
 .rw[c]at a;injection a with a;omega
theorem fM.dj{v':C5}(a:kn w v v')(d:L<=w.heap.size):fM L v v':=by
 rcases a with a|⟨g,b,c⟩
 .exact .inl a
 .exact .inr ⟨g,b,Dy d c⟩
theorem CY{B:Nat}{e:TypeId}{i m c:Nat}{j:Option Addr}{o:List C5}(q:w.ownsRow B e i (.slice j n c) n o)(a:m<=n):w.ownsRow B e i (.slice j m c) m (o.take (m*i)):=by
 obtain⟨r,s⟩:=q;refine⟨by rw[Yg,r];exact Cc (Nat.mul_le_mul_right _ a),?_⟩;rcases s with⟨f,l⟩|⟨g,_,p,f,l,t,u,v,x,y⟩
 .injection f with b k d
  subst b k d;exact .inl ⟨by rw[Nat.le_zero.1 a],Nat.le_zero.1 a⟩
 .injection f with b k d
  subst b d;refine .inr ⟨g,c,p,rfl,l,t,Dy a u,v,x,?_⟩;rw[<-y,List.take_take,Cc (Nat.mul_le_mul_right _ a)]
theorem IS{l:List UInt8}(h:xM l=true):l≠[]/\l.all kl=true/\kT 0 l<9223372036854775808:=by
 simp only[xM,D2,decide_eq_true_eq]at h;refine⟨fun e=>?_,h.1.1.2,h.2⟩;rw[e]at h;simp at h
theorem sL(s:C3)(w:C4)(_:s.size<=281474976710656)(f:xM s.data.toList=true):
 Cz 57 #[s] w (Cx ((kT 0 s.data.toList:Nat):Int) w):=by
 obtain⟨g,v,u⟩:=IS f;have z:0<s.size:=by rw[Yf];exact List.length_pos_iff.2 g
 have L:s.toList.isEmpty=false:=by rw[Ym];simpa using g
 have p:=U v;have r:=U f;have j:=U u;clear g v f u;go_enter func57,ntmps57;go_wp2
 go_loop [3,4,5] (fun n i _=>∃(k m:Nat),k<=s.size/\i=.int .i64 k/\n=.int .i64 m/\m=kT 0 (s.data.toList.take k)/\m<9223372036854775808) (fun _ i _=>s.size-(intOf i).toNat)
 case atStart=>exact⟨0,0,Dx _,rfl,rfl,by rw[Yx,g7],O⟩
 case round=>
  obtain⟨k,m,_,rfl,rfl,x,_⟩:=hrel;have d:=U x;clear x;by_cases b:k<s.size
  .obtain⟨c,a⟩:∃c:Int,(s[k].toNat:Int)=c:=⟨_,rfl⟩
   have D:=uq s k b c a;have l:=U a;have C:=QN b p.o;have B:48<=c:=O
   have J:c<=57:=O
   clear a C
   have y:¬(9223372036854775807-(c-48)) / 10<(m:Int):=fun y=>by
    have:=z2 s k m b d.o c l.o B y;rw[r.o]at this;cases this
   go_wp2;have G:=l.o;have F:((m*10+(s[k].toNat-48):Nat):Int)=(m:Int)*10+(c-48):=O
   have E:=l3 s.data.toList (k+1);rw[iV b,iS,<-d.o]at E;have K:=j.o;go_round
   case rel=>exact⟨k+1,m*10+(s[k].toNat-48),O,by go_num,by rw[F],by rw[iV b,iS,<-d.o],O⟩
   case measure=>simp[intOf];omega
  .have e:k=s.size:=by omega
   subst e
   have q:Do (m=kT 0 s.data.toList):=by
    unfold Do;rw[d.o,Ye (by rw[<-Yf];exact D0 _)]
   obtain⟨c,a⟩:∃c:Int,(s[0].toNat:Int)=c:=⟨_,rfl⟩
   have D:=o8 s z c a
   have t:(decide (s.size=1) || decide (c≠48))=true:=by
    rw[<-r.o,EK s z p.o j.o];congr 1;rw[Yk];simp;omega
   have A:=U t;clear a t;by_cases H:1<s.size
   .have I:c≠48:=by
     have:=A.o;rw[decide_eq_false (show ¬s.size=1 by omega),Bool.false_or]at this;exact of_decide_eq_true this
    go_wp2;exact Ig
   .go_wp2
    exact Ig
