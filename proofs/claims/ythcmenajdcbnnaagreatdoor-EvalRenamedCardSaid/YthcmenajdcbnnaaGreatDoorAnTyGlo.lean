import Derived.Test.YthcmenajdcbnnaaGreatDoorAnTyLl
set_option linter.unusedSimpArgs false
set_option linter.unusedVariables false
set_option maxRecDepth 100000
set_option maxHeartbeats 99000000
namespace Go.Proofs.YthcmenajdcbnnaaGreatDoor
open Go.RowKit Tryz
theorem Id{p:Prop}(h:p:=by
 simp only[Int.reduceEq,reduceIte];obtain⟨j,l,r⟩:=B Up;rw[j,l]
 exact SR.ok d):p:=h
variable{s:RS}{e:d2}{v:List Pa}{n c g:Nat}{p:Pr}{f:Fu}{ft k ty t op:Int}
def LA(p:Pr):Prop:=(∀a∈p.wa,a.name.size<=maxLen)/\∀f∈p.funcs,f.name.size<=maxLen/\∀x∈f.params,x.name.size<=maxLen
theorem xY{s:C2}:∀{l:List Fu},(qN l s).isSome=l.any fun f=>decide (f.name=s)
 |[]=>rfl
 | f::r=>by
   rw[qN,Y8];by_cases h:f.name=s
   .simp[h]
   .rw[Dl h,Option.isSome_map,xY]
    simp[h]
theorem yg{s:C2}:∀{l:List Ar},(ze l s).isSome=l.any fun f=>decide (f.name=s)
 |[]=>rfl
 | f::r=>by
   rw[ze,Y8];by_cases h:f.name=s
   .simp[h]
   .rw[Dl h,Option.isSome_map,yg]
    simp[h]
theorem yh{s:C2}:∀{l:List Pa},(zX l s).isSome=l.any fun f=>decide (f.name=s)
 |[]=>rfl
 | f::r=>by
   rw[zX,Y8,<-yh (l:=r)];cases zX r s with
   |some t=>simp
   |none=>
     by_cases h:f.name=s
     .simp[h]
     .simp[h]
theorem sF:∀l:List Pa,rD (l.map (·.name))= !fJ l
 |[]=>rfl
 | x::r=>by
   rw[Yb,rD,fJ,sF r,yh,List.any_map,Bool.not_or];rfl
theorem LB:∀(a b:List C2),rD (a++b)=(rD a&&rD b&&!(a.any fun s=>b.any fun x=>decide (x=s)))
 |[],b=>by simp[rD]
 | s::r,b=>by
   rw[Ys,rD,rD,LB r b,List.any_append,Y8];cases(r.any fun x=>decide (x=s))<;>cases(b.any fun x=>decide (x=s))<;>cases rD r<;>cases rD b<;>simp
theorem E1:∀l:List Fu,rD (l.map (·.name))= !yV l
 |[]=>rfl
 | x::r=>by
   rw[Yb,rD,yV,E1 r,xY,List.any_map,Bool.not_or];rfl
theorem E3(p:Pr):∀l:List Ar,(rD (l.map (·.name))&&!((l.map (·.name)).any fun s=>(p.funcs.map (·.name)).any fun x=>decide (x=s)))= !yK p l
 |[]=>rfl
 | x::r=>by
   rw[Yb,rD,yK,Y8,Bool.not_or,Bool.not_or,Bool.not_or,<-E3 p r,yg,xY,List.any_map,List.any_map];simp only[Function.comp_def];cases(r.any fun f=>decide (f.name=x.name))<;>cases(p.funcs.any fun f=>decide (f.name=x.name))<;>simp
theorem E5(p:Pr):rD (p.wa.map (·.name)++p.funcs.map (·.name))= !(yK p p.wa || yV p.funcs):=by
 rw[LB,E1,Bool.not_or,<-E3 p p.wa];cases rD (p.wa.map (·.name))<;>cases yV p.funcs<;>simp
theorem AG{w:C3}{base:Nat}{e:TypeId}{v:C4}{l:List C2}(a:w.ownsRow base e 1 v n (l.map Value.string))(D:n=l.length)(i:l.length<=281474976710656):R8 w.heap.size w v l:=by
 subst D;rcases a.2 with⟨rfl,u⟩|⟨g,k,p,rfl,x,c,y,z,A,f⟩
 .obtain rfl:l=[]:=Yj u
  exact⟨none,0,rfl,Dw _,fun a=>absurd a Ur⟩
 .have C:g<w.heap.size:=(Array.getElem?_eq_some_iff.1 c).1
  refine⟨_,k,rfl,i,fun _=>⟨g,0,rfl,?_⟩⟩
  have B:∀j t,l[j]?=some t->w.cell? ⟨g,0+j,none⟩=some (.string t):=fun j t d=>by
   rw[Yo,Ds c]
   have b:(p.toList.take (l.length*1))[j]?=some (Value.string t):=by
    rw[f,Yl,d];rfl
   rw[Y5]at b;split at b
   .simpa using b
   .cases b
  clear a x c y z A f i
  have q:∀(m:List C2) (o:Nat),(∀j t,m[j]?=some t->w.cell? ⟨g,o+j,none⟩=some (.string t))->uI 1 (fun(s:C2) g o=>dZ w.heap.size w g o (.string s)) m g o:=by
   intro m
   induction m with
   |nil=>intro _ _;trivial
   |cons t r E=>
     intro o a
     exact⟨⟨C,a 0 t rfl⟩,E (o+1) fun j F d=>by
      rw[show o+1+j=o+(j+1)by omega]
      exact a (j+1) F Xi⟩
  exact q l 0 B
theorem LC:(Tryz.prog.info? 9).map (fun i=>(i.zero,i.size,i.bytes))=some (some (.string ⟨#[]⟩),1,16):=by kernel_rfl
theorem nY{α β:Type}{f:α->β}{l:List α}{j:Nat}{x:α}(h:l[j]?=some x):(l.take (j+1)).map f=(l.take j).map f++[f x]:=by
 rw[Yr,h];simp
theorem uT(B:Nat)(p:Pr)(ab ad:C4)(w:C3)(R:B<=w.heap.size)(A:eZ B w ab p.wa)(C:e0 B w ad p.funcs)(_:p.wa.length<=1000000)(_:p.funcs.length<=1000000):
 Cy 64 #[.agg #[ab,ad]] w fun e w'=>∃v,e=.returned v/\R8 w'.heap.size w' v (p.wa.map (·.name)++p.funcs.map (·.name))/\Cx w w':=by
 obtain⟨ae,al,rfl,_⟩:=A.form;obtain⟨af,am,rfl,_⟩:=C.form;obtain⟨aa,T,X,Y,Z⟩:=info_parts LC;have d:=U (Do T (Do X (Do Y Z)));have ag:=U A;have ah:=U C;clear A C T X Y Z;go_enter func64,ntmps64;go_wp2_with fail
 go_loopw [3,11] (fun F iv wr=>∃j:Nat,j<=p.wa.length/\iv=.int .i64 j/\wr.ownsRow (w.heap.size+1) 9 1 F j (((p.wa.take j).map (·.name)).map Value.string)/\wr.heap[w.heap.size]?=some (qW ae p.wa.length al af p.funcs.length am)/\Cx w wr/\w.heap.size+1<=wr.heap.size) (fun _ iv _=>p.wa.length-(intOf iv).toNat)
 case atStart=>exact⟨0,Dw _,rfl,Ym _ _ _ _,Dq _ _,Zb.alloc Zr _,Ut⟩
 case round=>
  obtain⟨j,ap,rfl,b,r,c,aq⟩:=hrel;obtain⟨s,z,rfl⟩:=jG b;obtain⟨⟨_,_⟩,_⟩:=zD r;have ai:=U b;have ak:=U r;have K:=U c;by_cases E:j<p.wa.length
  .obtain⟨a,i⟩:∃e,p.wa[j]?=some e:=⟨_,Dz E⟩
   obtain⟨g,o,rfl,an,ar,au⟩:=(ag.o.below (c.mono R) Zr).cells i;have ao:g<wr.heap.size:=O
   have y:=U i;have x:=U (qU (qU b (.cells #[a.name,(a.size:Int)] 80)) (.cells #[a.name] 9));have t:=U (kE (wr.alloc (.cells #[a.name,(a.size:Int)] 80)) [.string a.name] 9 (wr.heap.size+1) Ur);clear i b r c
   go_wp2_with (at_builtin;refine wpList_append_own _ rfl (.tmp 15) (.tmp 18) _ rfl (w.heap.size+1) 9 aa _ 1 16 underlying59 d.o.1 d.o.2.1 d.o.2.2.1 d.o.2.2.2 rfl O (.slice s j z) j _ rfl (by exact x.o) ⟨wr.heap.size+1,0,none⟩ 1 1 [.string a.name] rfl rfl (by exact t.o) Uw Uv O Uq ?_
                intro av aw n m _;have l:=U m;have u:=U n
                clear n m)
   go_roundw
   case rel=>
    have q:∀k,(Value.slice s j z).ownBlock=some k->w.heap.size+1<=k:=fun k f=>(zR ai.o k f).1
    refine⟨j+1,O,by go_num,?_,?_,((K.o.alloc O _).alloc Uq _).grown l.o Uq fun k f=>by have:=q k f;omega,?_⟩
    .rw[nY y.o,Yf]
     exact u.o
    .exact(l.o.block _ Uq (fun e=>by have:=q _ e.symm;omega)).trans ((D3 _ _ _ Uq).trans ((D3 _ _ _ O).trans ak.o))
    .have:=l.o.size
     simp at this;omega
   case measure=>simp[intOf];omega
  .have D:j=p.wa.length:=by omega
   subst D;have aj:=U (show wr.ownsRow (w.heap.size+1) 9 1 (.slice s p.wa.length z) p.wa.length ((p.wa.map (·.name)).map Value.string)by rw[D9 Zr]at b;exact b);clear b c r;go_wp2_with fail
   go_loopw [3,24] (fun F iv G=>∃j:Nat,j<=p.funcs.length/\iv=.int .i64 j/\G.ownsRow (w.heap.size+1) 9 1 F (p.wa.length+j) ((p.wa.map (·.name)++(p.funcs.take j).map (·.name)).map Value.string)/\Cx w G/\w.heap.size+1<=G.heap.size) (fun _ iv _=>p.funcs.length-(intOf iv).toNat)
   case atStart=>exact⟨0,Dw _,rfl,by simpa using aj.o,K.o,aq⟩
   case round=>
    obtain⟨j,ap,rfl,b,c,_⟩:=hrel;obtain⟨H,N,rfl⟩:=jG b;have M:=U b;have L:=U c;by_cases E:j<p.funcs.length
    .obtain⟨a,i⟩:∃e,p.funcs[j]?=some e:=⟨_,Dz E⟩
     obtain⟨g,o,_,_,rfl,an,ar,au,_,_,W,S⟩:=(ah.o.below (c.mono R) Zr).cells i;obtain⟨I,P,rfl,_⟩:=W.form;obtain⟨J,Q,rfl,_⟩:=S.form;have y:=U i;have ao:g<wr.heap.size:=O
     have x:=U (qU (qU b (.cells #[a.name,(a.type:Int),(I,a.params.length,P),(J,a.body.length,Q)] 93)) (.cells #[a.name] 9));have t:=U (kE (wr.alloc (.cells #[a.name,(a.type:Int),(I,a.params.length,P),(J,a.body.length,Q)] 93)) [.string a.name] 9 (wr.heap.size+1) Ur);clear i b c W S
     go_wp2_with (at_builtin;refine wpList_append_own _ rfl (.tmp 28) (.tmp 31) _ rfl (w.heap.size+1) 9 aa _ 1 16 underlying59 d.o.1 d.o.2.1 d.o.2.2.1 d.o.2.2.2 rfl O (.slice H (p.wa.length+j) N) (p.wa.length+j) _ rfl (by exact x.o) ⟨wr.heap.size+1,0,none⟩ 1 1 [.string a.name] rfl rfl (by exact t.o) Uw Uv O Uq ?_
                  intro av aw n m _;have l:=U m;have u:=U n
                  clear n m)
     go_roundw
     case rel=>
      have q:∀k,(Value.slice H (p.wa.length+j) N).ownBlock=some k->w.heap.size+1<=k:=fun k f=>(zR M.o k f).1
      refine⟨j+1,O,by go_num,?_,((L.o.alloc O _).alloc Uq _).grown l.o Uq fun k f=>by have:=q k f;omega,?_⟩
      .rw[nY y.o,<-D7,Yf]
       exact u.o
      .have:=l.o.size
       simp at this;omega
     case measure=>simp[intOf];omega
    .have D:j=p.funcs.length:=by omega
     subst D;clear b c;go_wp2_with fail;go_ret;refine⟨_,rfl,?_,L.o⟩;have V:=M.o;rw[D9 Zr]at V;exact AG V Ur Uq
theorem j1(B:Nat)(p:Pr)(r:Bool)(G H:C4)(w:C3)(D:B<=w.heap.size)(u:eZ B w G p.wa)(v:e0 B w H p.funcs)(F:kd p=r):
 Cy 65 #[.agg #[G,H]] w (Cv r w):=by
 obtain⟨i,q,rfl,_⟩:=u.form;obtain⟨j,s,rfl,_⟩:=v.form;have y:=U (u.below ((D1 B w).alloc D (qW i p.wa.length q j p.funcs.length s)) Zr);have l:=U (v.below ((D1 B w).alloc D (qW i p.wa.length q j p.funcs.length s)) Zr);have C:=U F;clear u v F;cases hk:qN p.funcs ⟨#[109,97,105,110]⟩with
 |none=>
   have m:=U (show ko (qN p.funcs ⟨#[109,97,105,110]⟩)= -1 by rw[hk];rfl);have n:=U (show kd p=false by unfold kd jN;rw[hk];rfl);clear hk;go_enter func65,ntmps65;go_wp2_with (go_at_call 87;(with_reducible refine(l8 B p _ _ m.o _ _ _ Uq y.o l.o).mono ?_);rintro e d ⟨rfl,a⟩);go_ret;exact⟨zC (by rw[<-C.o,n.o]),(Zb.alloc Zr _).trans (a.mono Ur)⟩
 |some k=>
   obtain⟨f,c,_,_⟩:=ye hk;have m:=U (show ko (qN p.funcs ⟨#[109,97,105,110]⟩)=(k:Int)by rw[hk];rfl);have n:=U (show kd p=(decide (f.type=1)&&decide (f.params.length=0))by unfold kd jN;rw[hk,Option.bind_some,c]);have J:=U c;have S:k<p.funcs.length:=(List.getElem?_eq_some_iff.1 c).1;clear hk c;have L:f.type=1/\f.params.length=0\/f.type=1/\f.params.length≠0\/f.type≠1:=O
   rcases L with⟨b,t⟩|⟨b,t⟩|b
   all_goals
    have z:=U b
    try have A:=U t
    try clear t
    clear b;go_enter func65,ntmps65
    go_wp2_with (go_at_call 87;(with_reducible refine(l8 B p _ _ m.o _ _ _ Uq y.o l.o).mono ?_);rintro e d ⟨rfl,a⟩
                 have x:=(a.block w.heap.size Ur).trans (Dq w (qW i p.wa.length q j p.funcs.length s));obtain⟨⟨_,_⟩,_⟩:=zD x;have T:w.heap.size<d.heap.size:=zB x;obtain⟨g,o,_,_,rfl,_,_,M,N,_,E,K⟩:=(l.o.below (a.mono Uq) Zr).cells J.o;obtain⟨_,_,rfl,_⟩:=E.form;have R:g<d.heap.size:=O
                 have I:=C0 (Cx w d) ((Zb.alloc Zr _).trans (a.mono Ur))
                 try rw[z.o]at M
                 try rw[A.o]at N
                 clear a x E K)
    all_goals go_ret
    all_goals refine⟨zC ?_,I.o⟩
    all_goals
     rw[<-C.o,n.o];have P:=z.o
     try have Q:=A.o
     simp_all
abbrev E6(s:C2)(t:Int)(a b:C4):Obj:=.cells #[s,(t:Int),a,b] 93
theorem bdW{B:Nat}{a w:C3}(h:Below B a w)(n:Nat):Below B a (w.drewN n):=h.trans ⟨rfl,rfl,rfl,Dy _,fun _ _=>rfl⟩
theorem R9(h:fJ f.params=true):xt p f=(50,0):=by unfold xt;rw[Dm h]
theorem N0(a:fJ f.params=false){R:Int×Nat}(c:zW p f.type f.body f.params f.params.length false 0=R)(b:R.1≠0):xt p f=R:=by
 unfold xt;rw[Dl (by rw[a];decide),c,Dm b]
theorem SA(a:fJ f.params=false)(b:zW p f.type f.body f.params f.params.length false 0=(0,n)):xt p f=if d9 f.body then(0,0)else(52,n):=by
 unfold xt;rw[Dl (by rw[a];decide),b,Dl (show ¬(0 :Int)≠0 by decide)]
theorem nZ(b:eK p=true)(c:f∈p.funcs):d3 f.body 100=true/\f.params.length<=8:=by
 unfold eK at b;rw[Dv,Yv,Yv]at b;have a:=b.2 f c;unfold xr at a;simp only[Dv,decide_eq_true_eq]at a;exact⟨a.2,a.1.1.2⟩
theorem mD(B:Nat)(p:Pr)(f:Fu)(ab:eK p=true)(aF:LA p)(aa:f∈p.funcs)(bc bd be bf:C4)(w:C3)(q:B<=w.heap.size)(az:eZ B w bc p.wa)(aC:e0 B w bd p.funcs)(aE:e5 B w be f.params)(aA:eN B w bf f.body)(r:Int×Nat)(a3:xt p f=r):
 Cy 66 #[.agg #[bc,bd],.agg #[f.name,(f.type:Int),be,bf]] w (Cv (.tuple #[(r.1:Int),(eH r.2:Int)]) w):=by
 obtain⟨b,d,rfl,_⟩:=az.form;obtain⟨c,i,rfl,_⟩:=aC.form;obtain⟨E,G,rfl,_⟩:=aE.form;obtain⟨F,H,rfl,_⟩:=aA.form;obtain⟨bG,a1,a6,a7,a8⟩:=info_parts LC;have bJ:=(nZ ab aa).2;have X:=U (Do a1 (Do a6 (Do a7 a8)));have aI:=U az;have aK:=U aC;have ap:=U aE;have aj:=U aA;have aq:=U a3;have Y:=U (nZ ab aa).1;have aL:=U (IP ab);have bm:=U (aF.2 f aa).2;have aX:Cx w ((w.alloc (qW b p.wa.length d c p.funcs.length i)).alloc (E6 f.name f.type (.slice E f.params.length G) (.slice F f.body.length H))):=(Zb.alloc Zr _).alloc Ur _;have bn:=U aX;have aN:=C0 (((w.alloc (qW b p.wa.length d c p.funcs.length i)).alloc (E6 f.name f.type (.slice E f.params.length G) (.slice F f.body.length H))).heap[w.heap.size]?=some (qW b p.wa.length d c p.funcs.length i)) ((D3 _ _ _ Ur).trans (Dq w _));have aO:=C0 (((w.alloc (qW b p.wa.length d c p.funcs.length i)).alloc (E6 f.name f.type (.slice E f.params.length G) (.slice F f.body.length H))).heap[w.heap.size+1]?=some (E6 f.name f.type (.slice E f.params.length G) (.slice F f.body.length H))) (by simpa using Dq (w.alloc (qW b p.wa.length d c p.funcs.length i)) (E6 f.name f.type (.slice E f.params.length G) (.slice F f.body.length H)));clear az aC aE aA a3 a1 a6 a7 a8 ab aF aa aX;go_enter func66,ntmps66;go_wp2_with fail
 go_loopw [6,14] (fun bH iv wr=>∃j:Nat,j<=f.params.length/\iv=.int .i64 j/\wr.ownsRow (w.heap.size+1+1) 9 1 bH j (((f.params.take j).map (·.name)).map Value.string)/\Below (w.heap.size+1+1) ((w.alloc (qW b p.wa.length d c p.funcs.length i)).alloc (E6 f.name f.type (.slice E f.params.length G) (.slice F f.body.length H))) wr) (fun _ iv _=>f.params.length-(intOf iv).toNat)
 case atStart=>exact⟨0,Dw _,rfl,Ym _ _ _ _,D1 _ _⟩
 case round=>
  obtain⟨j,_,rfl,K,A⟩:=hrel;have aF:w.heap.size+1+1<=wr.heap.size:=by have:=A.size;simpa using this
  have ae:Cx w wr:=bn.o.trans (A.mono O);obtain⟨af,ay,rfl⟩:=jG K;obtain⟨⟨a9,ba⟩,bb⟩:=zD ((A.block w.heap.size O).trans aN.o);obtain⟨⟨aT,f1,aU,f3⟩,aV⟩:=zM ((A.block (w.heap.size+1) O).trans aO.o);have a4:w.heap.size<wr.heap.size:=O
  have ad:w.heap.size+1<wr.heap.size:=O
  have bj:=U K;have bg:=U A;have au:=U ae;by_cases bx:j<f.params.length
  .obtain⟨L,aG⟩:∃e,f.params[j]?=some e:=⟨_,Dz bx⟩
   obtain⟨g,o,rfl,_,_,_⟩:=(ap.o.below (ae.mono q) Zr).cells aG;have bK:g<wr.heap.size:=O
   have bp:=U aG;have bl:=U (qU (qU K (.cells #[L.name,(L.type:Int)] 100)) (.cells #[L.name] 9));have bi:=U (kE (wr.alloc (.cells #[L.name,(L.type:Int)] 100)) [.string L.name] 9 (wr.heap.size+1) Ur);clear aG K A ae
   go_wp2_with (at_builtin;refine wpList_append_own _ rfl (.tmp 18) (.tmp 21) _ rfl (w.heap.size+1+1) 9 bG _ 1 16 underlying59 X.o.1 X.o.2.1 X.o.2.2.1 X.o.2.2.2 rfl O (.slice af j ay) j _ rfl (by exact bl.o) ⟨wr.heap.size+1,0,none⟩ 1 1 [.string L.name] rfl rfl (by exact bi.o) Uw Uv O Uq ?_
                intro _ n a2 a0 _;have bh:=U a0;have bk:=U a2
                clear a2 a0)
   go_roundw
   case rel=>
    have bz:∀k,(Value.slice af j ay).ownBlock=some k->w.heap.size+1+1<=k:=fun k aD=>(zR bj.o k aD).1
    refine⟨j+1,O,by go_num,?_,((bg.o.alloc O _).alloc Uq _).grown bh.o Uq fun k aD=>bz k aD⟩;rw[nY bp.o,Yf];exact bk.o
   case measure=>simp[intOf];omega
  .have bw:j=f.params.length:=by omega
   subst bw;have am:=C0 (R8 wr.heap.size wr (.slice af f.params.length ay) (f.params.map (·.name))) (AG (by rw[D9 Zr]at K;exact K) Ur Uq)
   have ax:=U (show ∀s∈f.params.map (·.name),s.size<=maxLen from fun s bA=>by
    obtain⟨x,bF,rfl⟩:=List.mem_map.1 bA
    exact bm.o x bF)
   obtain⟨dp,aB⟩:=Cz (fJ f.params);have ak:=U aB;have an:=U (show rD (f.params.map (·.name))= !dp by rw[sF,aB]);have aQ:=U ((A.block w.heap.size O).trans aN.o);have Z:=U ((A.block (w.heap.size+1) O).trans aO.o);clear K A ae aB;cases dp
   case true=>
    go_wp2_with (go_at_call 63;(with_reducible refine(kh wr.heap.size _ _ _ _ Zr am.o ax.o an.o).mono ?_);rintro e a ⟨rfl,l⟩)
    go_ret2
    have m:=R9 (p:=p) ak.o;rw[aq.o]at m;subst m;exact⟨rfl,au.o.trans (l.mono O)⟩
   case false=>
    obtain⟨⟨bv,n1⟩,aY⟩:=Cz (zW p f.type f.body f.params f.params.length false 0);have W:=U aY;obtain⟨bt,aW⟩:=Cz (d9 f.body);have V:=U aW;clear aY aW;by_cases aZ:bv=0
    case neg=>
     go_wp2_with (go_at_call 63;(with_reducible refine(kh wr.heap.size _ _ _ _ Zr am.o ax.o an.o).mono ?_);rintro e a ⟨rfl,l⟩
                  obtain⟨⟨a9,ba⟩,bb⟩:=zD ((l.block w.heap.size a4).trans aQ.o);obtain⟨⟨aT,f1,aU,f3⟩,aV⟩:=zM ((l.block (w.heap.size+1) ad).trans Z.o);have av:=U ((l.block (w.heap.size+1) ad).trans Z.o);have S:w.heap.size+1<a.heap.size:=Gf
                  have bC:w.heap.size<a.heap.size:=O
                  have N:=C0 (Cx w a) (au.o.trans (l.mono O))
                  clear l)
     have T:Cx a (a.alloc (EV (.slice b p.wa.length d) (.slice c p.funcs.length i) f.type 0)).drew:=(Zb.alloc Zr _).drew;have ar:=U T;have ah:=C0 ((a.alloc (EV (.slice b p.wa.length d) (.slice c p.funcs.length i) f.type 0)).drew.heap[a.heap.size]?=some (EV (.slice b p.wa.length d) (.slice c p.funcs.length i) f.type (eH 0))) (Dq a _);have ao:=U (ap.o.below ((N.o.trans (T.mono O)).mono q) Zr)
     go_region_held3 (fun w'=>w'.cell? (w.heap.size+1,2)=some (.slice E f.params.length G)/\w'.cell? (w.heap.size+1,3)=some (.slice F f.body.length H))
      (first
        |(go_split_ands;refine⟨?_,?_⟩ <;>(first|(rw[R];assumption)|(rw[J];assumption)))
        |go_keep)
      (first
        | (go_at_call 89
           (refine(yp (a.alloc (EV (.slice b p.wa.length d) (.slice c p.funcs.length i) f.type 0)).drew (a.heap.size+1) (a.heap.size+1) B (.pointer none) (.pointer none) [] f.params _ Xm Xm (iD.nil _ _) Xm (gW.none _ _ _ _ Zr) ao.o).mono ?_)
           rintro e n ⟨v',rfl,D,y⟩;obtain⟨aH,rfl⟩:=(D.fin (iD.nil _ _)).form;have z:Cx a n:=ar.o.trans (y.mono Xm);have J:∀x,n.cell? ⟨w.heap.size+1,x,none⟩=a.cell? ⟨w.heap.size+1,x,none⟩:=fun x=>z.cell (p:=⟨w.heap.size+1,x,none⟩) S
           have bD:a.heap.size+1<=n.heap.size:=Dr (Dt (zA _ _).symm) y.size;have Q:=(y.block a.heap.size Hh).trans ah.o;have ai:=U Q;have t:Cx w n:=N.o.trans (z.mono O);have P:=U t;have al:=C0 (wK B (a.heap.size+1) p f.params (.slice b p.wa.length d) (.slice c p.funcs.length i) (.pointer aH) n) ⟨O,O,aI.o.below (t.mono q) Zr,aK.o.below (t.mono q) Zr,by rw[D8]at D;exact D⟩;have ag:=U (aj.o.below (t.mono q) Zr);have aw:=U ((z.block (w.heap.size+1) S).trans av.o)
           clear D y z Q t)
        | (go_at_call 88
           (refine((sD 100).call Y.o aL.o W.o al.o O O ai.o ag.o).mono ?_)
           rintro e u ⟨rfl,C,I⟩;have R:∀x,u.cell? ⟨w.heap.size+1,x,none⟩=n.cell? ⟨w.heap.size+1,x,none⟩:=fun x=>C.cell O O
           have J:∀x,u.cell? ⟨w.heap.size+1,x,none⟩=a.cell? ⟨w.heap.size+1,x,none⟩:=fun x=>(R x).trans (J x)
           obtain⟨⟨bq,br,bs,aR⟩,bu⟩:=zM I;have a5:a.heap.size<u.heap.size:=zB I;have v:=C0 (Cx w u) (P.o.trans (jz C P.o.size O));have aP:=U ((C.block (k:=w.heap.size+1) O O).trans aw.o)
           clear C I))
     go_wp2_with fail
     go_quiet (fail)
     go_wp2_with fail
     go_ret2
     have m:=N0 (p:=p) ak.o W.o aZ;rw[aq.o]at m;subst m;exact⟨rfl,bdW v.o _⟩
    case pos=>
     subst aZ
     go_wp2_with (go_at_call 63;(with_reducible refine(kh wr.heap.size _ _ _ _ Zr am.o ax.o an.o).mono ?_);rintro e a ⟨rfl,l⟩
                  obtain⟨⟨a9,ba⟩,bb⟩:=zD ((l.block w.heap.size a4).trans aQ.o);obtain⟨⟨aT,f1,aU,f3⟩,aV⟩:=zM ((l.block (w.heap.size+1) ad).trans Z.o);have av:=U ((l.block (w.heap.size+1) ad).trans Z.o);have S:w.heap.size+1<a.heap.size:=Gf
                  have bC:w.heap.size<a.heap.size:=O
                  have N:=C0 (Cx w a) (au.o.trans (l.mono O))
                  clear l)
     have T:Cx a (a.alloc (EV (.slice b p.wa.length d) (.slice c p.funcs.length i) f.type 0)).drew:=(Zb.alloc Zr _).drew;have ar:=U T;have ah:=C0 ((a.alloc (EV (.slice b p.wa.length d) (.slice c p.funcs.length i) f.type 0)).drew.heap[a.heap.size]?=some (EV (.slice b p.wa.length d) (.slice c p.funcs.length i) f.type (eH 0))) (Dq a _);have ao:=U (ap.o.below ((N.o.trans (T.mono O)).mono q) Zr)
     go_region_held3 (fun w'=>w'.cell? (w.heap.size+1,2)=some (.slice E f.params.length G)/\w'.cell? (w.heap.size+1,3)=some (.slice F f.body.length H))
      (first
        |(go_split_ands;refine⟨?_,?_⟩ <;>(first|(rw[R];assumption)|(rw[J];assumption)))
        |go_keep)
      (first
        | (go_at_call 89
           (refine(yp (a.alloc (EV (.slice b p.wa.length d) (.slice c p.funcs.length i) f.type 0)).drew (a.heap.size+1) (a.heap.size+1) B (.pointer none) (.pointer none) [] f.params _ Xm Xm (iD.nil _ _) Xm (gW.none _ _ _ _ Zr) ao.o).mono ?_)
           rintro e n ⟨v',rfl,D,y⟩;obtain⟨aH,rfl⟩:=(D.fin (iD.nil _ _)).form;have z:Cx a n:=ar.o.trans (y.mono Xm);have J:∀x,n.cell? ⟨w.heap.size+1,x,none⟩=a.cell? ⟨w.heap.size+1,x,none⟩:=fun x=>z.cell (p:=⟨w.heap.size+1,x,none⟩) S
           have bD:a.heap.size+1<=n.heap.size:=Dr (Dt (zA _ _).symm) y.size;have Q:=(y.block a.heap.size Hh).trans ah.o;have ai:=U Q;have t:Cx w n:=N.o.trans (z.mono O);have P:=U t;have al:=C0 (wK B (a.heap.size+1) p f.params (.slice b p.wa.length d) (.slice c p.funcs.length i) (.pointer aH) n) ⟨O,O,aI.o.below (t.mono q) Zr,aK.o.below (t.mono q) Zr,by rw[D8]at D;exact D⟩;have ag:=U (aj.o.below (t.mono q) Zr);have aw:=U ((z.block (w.heap.size+1) S).trans av.o)
           clear D y z Q t)
        | (go_at_call 88
           (refine((sD 100).call Y.o aL.o W.o al.o O O ai.o ag.o).mono ?_)
           rintro e u ⟨rfl,C,I⟩;have R:∀x,u.cell? ⟨w.heap.size+1,x,none⟩=n.cell? ⟨w.heap.size+1,x,none⟩:=fun x=>C.cell O O
           have J:∀x,u.cell? ⟨w.heap.size+1,x,none⟩=a.cell? ⟨w.heap.size+1,x,none⟩:=fun x=>(R x).trans (J x)
           obtain⟨⟨bq,br,bs,aR⟩,bu⟩:=zM I;have a5:a.heap.size<u.heap.size:=zB I;have v:=C0 (Cx w u) (P.o.trans (jz C P.o.size O));have aP:=U ((C.block (k:=w.heap.size+1) O O).trans aw.o)
           clear C I))
     obtain⟨⟨_,_,_,_⟩,_⟩:=zM aP.o;have bL:w.heap.size+1<u.heap.size:=O
     have aJ:=U (aj.o.below (v.o.mono q) Zr);have m:=SA (p:=p) ak.o W.o;rw[aq.o]at m;have aM:=U m;clear m;cases bt
     case true=>
      go_wp2_with (go_at_call 90;(with_reducible refine((sA 100).call Y.o V.o (Dr q v.o.size) aJ.o).mono ?_);rintro e w8 ⟨rfl,M⟩)
      go_ret2
      have m:=aM.o;rw[V.o]at m;subst m;exact⟨rfl,v.o.trans (M.mono v.o.size)⟩
     case false=>
      go_wp2_with (go_at_call 90;(with_reducible refine((sA 100).call Y.o V.o (Dr q v.o.size) aJ.o).mono ?_);rintro e w8 ⟨rfl,M⟩
                   have aS:w8.cell? (a.heap.size,2+1)=some (.int .i64 (eH n1)):=(M.cell (p:=(a.heap.size,3)) a5).trans aR;have bI:w8.cell? (a.heap.size,3)=some (.int .i64 (eH n1)):=aS;have bM:a.heap.size<w8.heap.size:=by have:=M.size;omega
                   have bo:=C0 (Cx w w8) (v.o.trans (M.mono v.o.size))
                   clear M aS)
      go_quiet (fail)
      go_wp2_with fail
      go_ret2
      have m:=aM.o;rw[V.o]at m;subst m;exact⟨rfl,bdW bo.o _⟩
def xl(a:qb)(c:Nat):Prop:=(a.map (·.2)).Nodup/\∀s∈a.map (·.2),∃i,i<c/\s=vN i
theorem xl.mono{b:qb}{d:Nat}(a:xl b c)(_:c<=d):xl b d:=⟨a.1,fun s f=>by obtain⟨i,_,e⟩:=a.2 s f;exact⟨i,O,e⟩⟩
theorem xl.not{a:qb}(b:xl a c):vN c ∉ a.map (·.2):=fun d=>by
 obtain⟨i,_,e⟩:=b.2 _ d;have:=RQ e;omega
theorem xl.snoc{g:qb}(f:xl g c)(s:C2):xl (g++[(s,vN c)]) (c+1):=by
 refine⟨?_,fun t d=>?_⟩
 .rw[Yf,List.nodup_append]
  refine⟨f.1,Ur,fun a j b k=>?_⟩;rintro rfl;have:a=vN c:=by simpa using k
  subst this;exact f.not j
 .rw[Yf,List.mem_append]at d
  rcases d with d|d
  .obtain⟨i,_,e⟩:=f.2 t d
   exact⟨i,O,e⟩
  .exact⟨c,O,Xi⟩
theorem AH:∀(l:qb) (s t:C2),yB (l++[(s,t)]) s=some t
 |[],s,t=>by rw[Yy,yB,yB];exact Dm rfl
 |x::r,s,t=>by rw[Ys,yB,AH r s t]
theorem SB(l:qb)(s t:C2):o4 (l++[(s,t)]) s=t:=gV (AH l s t)
def kS:St->Int | .mk k _ _ _ _ _=>k
mutual
theorem rE:∀(s:St) (tj:qb) (n:Nat),kY (kS s) n<=(jc s tj n).2
 | .mk k ty td tc tg th,tj,n=>by
   have a:=yq tg (jV k td tj n) (kY k n);have b:=yq th (jV k td tj n) (zO tg (jV k td tj n) (kY k n)).2;rw[jc];exact Dr a b
theorem yq:∀(l:List St) (tj:qb) (n:Nat),n<=(zO l tj n).2
 |[],tj,n=>by rw[zO];exact Dy _
 | s::r,tj,n=>by
   have a:=rE s tj n;have b:=yq r (vy s tj n) (jc s tj n).2;have c:n<=kY (kS s) n:=by unfold kY;split<;>omega
   rw[zO];exact Dr c (Dr a b)
end
def mE(k:Int)(td:C2)(tj:qb)(n:Nat):C2:=if k=1\/k=2 then o4 (jV k td tj n) td else td
theorem mF(td:C2)(tj:qb)(n:Nat):mE 1 td tj n=vN n:=by
 unfold mE jV;rw[Dm (.inl rfl),Dm rfl,SB]
theorem YE{b:qb}{c:List Pa}{s:C2}(g:∀t,zX c s=some t->s∈b.map (·.2))(f:s ∉ b.map (·.2))(frm:Nat):(zX (c.drop frm) s).isSome=false:=by
 cases a:zX (c.drop frm) s with
 |none=>rfl
 |some t=>
   exfalso
   have j:∀(l:List Pa) (k:Nat) (t:Int),zX (l.drop k) s=some t->∃d,zX l s=some d:=by
    intro l
    induction l with
    |nil=>intro k t a;rw[List.drop_nil]at a;exact⟨t,a⟩
    |cons x r i=>
      intro k t a;cases k with
      |zero=>exact⟨t,a⟩
      |succ k=>
        obtain⟨d,e⟩:=i k t a;exact⟨d,by rw[zX,e]⟩
   obtain⟨d,e⟩:=j c frm t a;exact f (g d e)
theorem Al.drop'{a:List Pa}{b:qb}{c:List Pa}(d:Al a b c)(hF:xl b n)(frm:Nat):(zX (c.drop frm) (vN n)).isSome=false:=YE (b:=b) (fun t e=>d.mem e) hF.not frm
theorem SC{tf r:List Pa}{f:qb}(b:Al tf f r)(hF:xl f c){td:C2}{tc:List Ex}{frm:Nat}{ti:Bool}(a:qy p ft k ty td tc tf frm ti=0):
 qy (qJ p) ft k ty (mE k td f c) (qO f tc) r frm ti=0:=by
 have d:=hF.1;unfold qy at *;by_cases g:k=1
 .subst g
  rw[Dm rfl]at a ⊢;rw[kO,mF];by_cases e:qu p tf (tc.getD 0 jj) ty=0
  .rw[Dm (yX b d e),b.drop' hF frm]
   rfl
  .rw[Dl e]at a;exact absurd a e
 rw[Dl g]at a ⊢;by_cases j:k=2
 .subst j
  rw[Dm rfl]at a ⊢;rw[kO];cases hv:zX tf td with
  |none=>rw[hv]at a;exact absurd (show(50 :Int)=0 from a) Up
  |some t=>
    rw[hv]at a;obtain⟨w,s,u⟩:=b.find d hv;rw[show mE 2 td f c=w by unfold mE jV;rw[Dm (.inr rfl),Dl Up,gV s],u];exact yX b d a
 rw[Dl j]at a ⊢;have v:mE k td f c=td:=by unfold mE;rw[Dl O]
 rw[v];by_cases l:k=3
 .rw[Dm l]at a ⊢
  show(if(ze p.wa td).isSome=true then _ else _)=_;rw[kO,kO];by_cases q:(ze p.wa td).isSome=true
  .rw[Dm q]at a ⊢
   by_cases e:qu p tf (tc.getD 0 jj) 1=0
   .rw[Dm e]at a
    rw[Dm (yX b d e)];exact yX b d a
   .rw[Dl e]at a;exact absurd a e
  .rw[Dl q]at a;exact absurd a Up
 rw[Dl l]at a ⊢;by_cases m:k=4\/k=5
 .rw[Dm m]at a ⊢;rw[kO];exact yX b d a
 rw[Dl m]at a ⊢;by_cases n:k=8
 .rw[Dm n]at a ⊢;rw[kO];exact yX b d a
 rw[Dl n]at a ⊢;by_cases o:k=9
 .rw[Dm o]at a ⊢;rw[kO];exact yX b d a
 rw[Dl o]at a ⊢;by_cases i:k=10
 .rw[Dm i]at a ⊢;rw[kO,r5 b d _ a];exact a
 rw[Dl i]at a ⊢;exact a
theorem Al.let{tf e:List Pa}{b:qb}(d:Al tf b e)(k ty:Int)(td:C2)(c:Nat):Al (jE k ty td tf) (jV k td b c) (jE k ty (mE k td b c) e):=by
 unfold jE jV;by_cases a:k=1
 .subst a
  rw[Dm rfl,Dm rfl,Dm rfl,mF];exact d.snoc td ty (vN c)
 .rw[Dl a,Dl a,Dl a]
  exact d
theorem xl.let{d:qb}(b:xl d c)(k:Int)(td:C2):xl (jV k td d c) (kY k c):=by
 unfold jV kY;by_cases a:k=1
 .rw[Dm a,Dm a];exact b.snoc td
 .rw[Dl a,Dl a];exact b
mutual
theorem SD{p:Pr}{ft:Int}:∀(s:St) (tf d:List Pa) (a:qb) (frm:Nat) (ti:Bool) (n m c:Nat),Al tf a d->xl a c->yn p ft s tf frm ti n=(0,m)->yn (qJ p) ft (jc s a c).1 d frm ti n=(0,m)
 | .mk k ty td tc tg th,tf,d,a,frm,ti,n,m,c,hA,hF,h=>by
   rw[yn]at h;by_cases b:qy p ft k ty td tc tf frm ti=0
   .rw[Dl Uz]at h
    have f:=hA.let k ty td c;have g:=hF.let k td;rw[jc,yn];have l:=SC hA hF b;rw[show(if k=1\/k=2 then o4 (jV k td a c) td else td)=mE k td a c from rfl];rw[Dl (by simpa using l)]
    have o:(jE k ty (mE k td a c) d).length=(jE k ty td tf).length:=by
     have:=f.len;omega
    rw[o];obtain⟨⟨j,n1⟩,i⟩:=Cz (zW p ft tg (jE k ty td tf) (jE k ty td tf).length (ti || decide (k=5)) (n+1));rw[i]at h;by_cases e:j=0
    .subst e
     rw[Dl Ur]at h;rw[iG tg _ _ _ _ _ _ _ _ f g i,Dl Ur];exact iG th _ _ _ _ _ _ _ _ f (g.mono (yq tg _ _)) h
    .rw[Dm Ku]at h
     exact absurd (congrArg Prod.fst h) e
   .rw[Dm b]at h
    exact absurd (congrArg Prod.fst h) b
theorem iG{p:Pr}{ft:Int}:∀(l:List St) (tf b:List Pa) (a:qb) (frm:Nat) (ti:Bool) (n m c:Nat),Al tf a b->xl a c->zW p ft l tf frm ti n=(0,m)->zW (qJ p) ft (zO l a c).1 b frm ti n=(0,m)
 | [],tf,b,a,frm,ti,n,m,c,hA,hF,h=>by
   rw[zO,zW];rwa [zW]at h
 | .mk k ty td tc tg th::r,tf,b,a,frm,ti,n,m,c,hA,hF,h=>by
   rw[zW]at h;obtain⟨⟨g,n1⟩,f⟩:=Cz (yn p ft (.mk k ty td tc tg th) tf frm ti n);rw[f]at h;by_cases d:g=0
   .subst d
    rw[Dl Ur]at h;rw[zO,zW,SD _ _ _ _ _ _ _ _ _ hA hF f,Dl Ur];have i:=hA.let k ty td c;have j:=(hF.let k td).mono (rE (.mk k ty td tc tg th) a c);have e:B5 (jc (.mk k ty td tc tg th) a c).1 b=jE k ty (mE k td a c) b:=by rw[jc];rfl
    rw[e];exact iG r _ _ _ _ _ _ _ _ i j h
   .rw[Dm Xi]at h
    exact absurd (congrArg Prod.fst h) d
end
theorem N1(a:qb):∀l:List Ex,i9 (qO a l)=i9 l
 |[]=>by rw[qO]
 |.mk k op n td tc::r=>by rw[qO,vK];rfl
mutual
theorem SE:∀(s:St) (tj:qb) (n:Nat),l0 (jc s tj n).1=l0 s
 |.mk k ty td tc tg th,tj,n=>by rw[jc,l0,l0,iH tg,iH th]
theorem iH:∀(l:List St) (tj:qb) (n:Nat),jD (zO l tj n).1=jD l
 |[],tj,n=>Vp
 |s::r,tj,n=>by rw[zO,jD,jD,SE s,iH r]
end
mutual
theorem SF:∀(s:St) (tj:qb) (n:Nat),l1 (jc s tj n).1=l1 s
 |.mk k ty td tc tg th,tj,n=>by rw[jc,l1,l1,iI tg,iI th,iH tg,N1]
theorem iI:∀(l:List St) (tj:qb) (n:Nat),d9 (zO l tj n).1=d9 l
 |[],tj,n=>Vp
 |s::r,tj,n=>by rw[zO,d9,d9,SF s,iI r]
end
theorem sG:∀(l:List Pa) (n:Nat),(eL l n).length=l.length
 |[],_=>rfl
 |x::r,n=>by rw[eL,Dp,Dp,sG r]
theorem fO:∀(l:List Pa) (n:Nat),(eL l n).map (·.2)=(List.range' n l.length).map vN
 |[],_=>rfl
 |x::r,n=>by rw[eL,Yb,Dp,List.range'_succ,Yb,fO r]
theorem sH(n k:Nat):((List.range' n k).map vN).Nodup:=by
 refine List.Pairwise.map _ (fun a b h=>?_) (List.nodup_range' (s:=n) (n:=k) (step:=1));exact fun e=>h (RQ e)
theorem k5(l:List Pa):xl (eL l 0) l.length:=by
 refine⟨by rw[fO];exact sH _ _,fun s a=>?_⟩;rw[fO]at a;obtain⟨i,b,e⟩:=List.mem_map.1 a;have:=List.mem_range'.1 b;exact⟨i,O,e.symm⟩
theorem LD:∀(l:List Pa) (n:Nat),Al l (eL l n) (d8 l n)
 |[],_=>trivial
 |x::r,n=>⟨rfl,rfl,rfl,LD r (n+1)⟩
theorem g0:∀(l:List Pa) (n:Nat),(d8 l n).map (·.name)=(List.range' n l.length).map vN
 |[],_=>rfl
 |x::r,n=>by rw[d8,Yb,Dp,List.range'_succ,Yb,g0 r]
theorem sI:∀{l:List Pa},(l.map (·.name)).Nodup->fJ l=false
 |[],_=>rfl
 | x::r,a=>by
   rw[Yb,List.nodup_cons]at a;rw[fJ,sI a.2,Bool.or_false];cases hv:zX r x.name with
   |none=>rfl
   |some t=>
     exfalso;refine a.1 ?_
     have d:∀(l:List Pa) (s:C2) (t:Int),zX l s=some t->s∈l.map (·.name):=by
      intro l s t
      induction l with
      |nil=>intro a;cases a
      |cons b q c=>
        intro a;rw[zX]at a;rw[Yb,Cg];cases hq:zX q s with
        |some _=>
          rw[hq]at a;exact .inr (c (by rw[hq];exact a))
        |none=>
          rw[hq]at a;by_cases e:b.name=s
          .exact .inl e.symm
          .rw[show(if b.name=s then some b.type else Option.none)=Option.none from Dl e]at a;cases a
     exact d r x.name t hv
theorem SG(a:(xt p f).1=0):xt (qJ p) (kq f)=xt p f:=by
 unfold xt at *;by_cases c:fJ f.params=true
 .rw[Dm c]at a;exact absurd a Up
 rw[Dl c]at a ⊢;rw[Dl (by show ¬fJ (d8 f.params 0)=true;rw[sI (by rw[g0];exact sH _ _)];decide)];obtain⟨⟨e,m⟩,d⟩:=Cz (zW p f.type f.body f.params f.params.length false 0);rw[d]at a ⊢;by_cases b:e=0
 .subst b
  have g:zW (qJ p) (kq f).type (kq f).body (kq f).params (kq f).params.length false 0=(0,m):=by
   show zW (qJ p) f.type (zO f.body (eL f.params 0) f.params.length).1 (d8 f.params 0) (d8 f.params 0).length false 0=_;rw[kt];exact iG f.body _ _ _ _ _ _ _ _ (LD f.params 0) (k5 f.params) d
  rw[g];show(if(0 :Int)≠0 then _ else if d9 (zO f.body (eL f.params 0) f.params.length).1=true then _ else _)=_;rw[iI]
 .rw[Dm Uz]at a
  exact absurd a b
def EA:List Pa->qb->d2->d2->Prop
 |[],[],[],[]=>True
 |x::r,q::rs,a::es,b::fs=>q.1=x.name/\a.1=x.name/\b.1=q.2/\b.2=a.2/\EA r rs es fs
 |_,_,_,_=>False
theorem EA.len:∀{v:List Pa}{b:qb}{e f:d2},EA v b e f->b.length=v.length/\e.length=v.length/\f.length=v.length
 |[],[],[],[],_=>⟨rfl,rfl,rfl⟩
 | x::r,q::rs,a::es,b::fs,h=>by
   have:=h.2.2.2.2.len;simp only[Dp];omega
theorem EA.snoc:∀{v:List Pa}{b:qb}{e f:d2},EA v b e f->∀(s:C2) (t:Int) (n:C2) (z:Int),EA (v++[⟨s,t⟩]) (b++[(s,n)]) (e++[(s,z)]) (f++[(n,z)])
 |[],[],[],[],_,s,t,n,z=>⟨rfl,rfl,rfl,rfl,trivial⟩
 |x::r,q::rs,a::es,b::fs,h,s,t,n,z=>⟨h.1,h.2.1,h.2.2.1,h.2.2.2.1,h.2.2.2.2.snoc s t n z⟩
theorem EA.take:∀{v:List Pa}{b:qb}{e f:d2}(k:Nat),EA v b e f->EA (v.take k) (b.take k) (e.take k) (f.take k)
 |[],[],[],[],k,_=>by simp only[List.take_nil];trivial
 |x::r,q::rs,a::es,b::fs,0,h=>trivial
 |x::r,q::rs,a::es,b::fs,k+1,h=>⟨h.1,h.2.1,h.2.2.1,h.2.2.2.1,h.2.2.2.2.take k⟩
theorem EA.val:∀{v:List Pa}{b:qb}{e f:d2},EA v b e f->∀k:Nat,(f[k]?).map (·.2)=(e[k]?).map (·.2)
 |[],[],[],[],_,k=>rfl
 |x::r,q::rs,a::es,b::fs,h,0=>by simp[h.2.2.2.1]
 |x::r,q::rs,a::es,b::fs,h,k+1=>by simpa using h.2.2.2.2.val k
theorem EA.no:∀{v:List Pa}{b:qb}{e f:d2},EA v b e f->∀{s:C2},zX v s=none->jf e s=none/\yB b s=none
 |[],[],[],[],_,s,_=>⟨rfl,rfl⟩
 | x::r,q::rs,a::es,b::fs,h,s,hv=>by
   rw[zX]at hv;cases hr:zX r s with
   |some t=>rw[hr]at hv;cases hv
   |none=>
     rw[hr]at hv;obtain⟨c,d⟩:=h.2.2.2.2.no hr;rw[jf,yB,c,d,h.1,h.2.1];by_cases e:x.name=s
     .rw[Dm e]at hv;cases hv
     .exact⟨Dl e,Dl e⟩
theorem EA.mem:∀{v:List Pa}{b:qb}{e f:d2},EA v b e f->∀{s:C2}{k:Nat},jf f s=some k->s∈b.map (·.2)
 |[],[],[],[],_,s,k,hv=>by rw[jf]at hv;cases hv
 | x::r,q::rs,a::es,b::fs,h,s,k,hv=>by
   rw[jf]at hv;rw[Yb,Cg];cases hr:jf fs s with
   |some _=>exact .inr (h.2.2.2.2.mem hr)
   |none=>
     rw[hr]at hv;by_cases e:b.1=s
     .exact .inl (by rw[<-e,h.2.2.1])
     .rw[show(if b.1=s then some 0 else Option.none)=Option.none from Dl e]at hv;cases hv
theorem EA.at:∀{v:List Pa}{b:qb}{e f:d2},EA v b e f->(b.map (·.2)).Nodup->∀{s:C2}{t:Int},zX v s=some t->∃c k,yB b s=some c/\jf e s=some k/\jf f c=some k/\(e[k]?).map (·.1)=some s/\(f[k]?).map (·.1)=some c
 |[],[],[],[],_,_,s,t,hv=>by rw[zX]at hv;cases hv
 | x::r,q::rs,a::es,b::fs,h,hd,s,t,hv=>by
   rw[Yb,List.nodup_cons]at hd;rw[zX]at hv;cases hr:zX r s with
   |some m=>
     obtain⟨c,k,d,g,i,j,l⟩:=h.2.2.2.2.at hd.2 hr;exact⟨c,k+1,by rw[yB,d],by rw[jf,g],by rw[jf,i],by simpa using j,by simpa using l⟩
   |none=>
     rw[hr]at hv;obtain⟨d,g⟩:=h.2.2.2.2.no hr;by_cases e:x.name=s
     .refine⟨q.2,0,?_,?_,?_,?_,?_⟩
      .rw[yB,g,h.1];exact Dm e
      .rw[jf,d,h.2.1];exact Dm e
      .rw[jf]
       cases hy:jf fs q.2 with
       |some m=>exact absurd (h.2.2.2.2.mem hy) hd.1
       |none=>exact Dm h.2.2.1
      .simp[h.2.1,e]
      .simp[h.2.2.1]
     .rw[show(if x.name=s then some x.type else Option.none)=Option.none from Dl e]at hv;cases hv
theorem EA.set:∀{v:List Pa}{b:qb}{e f:d2},EA v b e f->∀{k:Nat}{s c:C2}(z:Int),(e[k]?).map (·.1)=some s->(f[k]?).map (·.1)=some c->EA v b (e.set k (s,z)) (f.set k (c,z))
 |[],[],[],[],_,k,s,c,z,_,_=>trivial
 | x::r,q::rs,a::es,b::fs,h,0,s,c,z,h1,h2=>by
   have d:a.1=s:=by simpa using h1
   have g:b.1=c:=by simpa using h2
   exact⟨h.1,d▸h.2.1,g▸h.2.2.1,rfl,h.2.2.2.2⟩
 |x::r,q::rs,a::es,b::fs,h,k+1,s,c,z,h1,h2=>⟨h.1,h.2.1,h.2.2.1,h.2.2.2.1,h.2.2.2.2.set z (by simpa using h1) (by simpa using h2)⟩
theorem EA.get{b:qb}{f:d2}(a:EA v b e f)(i:(b.map (·.2)).Nodup){s:C2}(j:zX v s=some t):o0 f (o4 b s)=o0 e s:=by
 obtain⟨_,k,c,d,g,_,_⟩:=a.at i j;unfold o0;rw[gV c,d,g];show((f[k]?).map (·.2)).getD 0=((e[k]?).map (·.2)).getD 0;rw[a.val k]
theorem EA.put{b:qb}{f:d2}(a:EA v b e f)(l:(b.map (·.2)).Nodup){s:C2}(m:zX v s=some t)(z:Int):EA v b (yO e s z) (yO f (o4 b s) z):=by
 obtain⟨_,k,c,d,g,i,j⟩:=a.at l m;unfold yO;rw[gV c,d,g];exact a.set z i j
theorem EA.par:∀(l:List Pa) (n:Nat) (vs:List Int),vs.length=l.length->EA l (eL l n) ((l.map (·.name)).zip vs) (((d8 l n).map (·.name)).zip vs)
 |[],n,[],_=>trivial
 |x::r,n,z::vs,h=>⟨rfl,rfl,rfl,rfl,EA.par r (n+1) vs Vj⟩
theorem k6{tf:List Pa}{n:Int}{td:C2}{tc:List Ex}(a:(qF p tf (.mk k op n td tc)).2=0):jp p tf k td=true/\kb p k td tc.length=true/\∃l,zq p tf tc=.inr l:=by
 rw[qF]at a;by_cases b:jp p tf k td=false
 .rw[Dm b]at a;exact absurd a Vd
 rw[Dl b]at a;by_cases c:kb p k td tc.length=false
 .rw[Dm c]at a;exact absurd a (by show(51 :Int)≠0;decide)
 rw[Dl c]at a;refine⟨Uz,Xe,?_⟩;cases hr:zq p tf tc with
 |inl x=>rw[hr]at a;exact absurd a (nP hr)
 |inr l=>exact⟨l,rfl⟩
theorem iJ{tf:List Pa}:∀{l:List Ex}{c:List Int},zq p tf l=.inr c->∀e∈l,(qF p tf e).2=0
 |[],_,_,e,a=>Xb
 | x::r,c,h,e,a=>by
   rw[zq]at h;by_cases b:(qF p tf x).2=0
   .rw[Dl Uz]at h
    cases hr:zq p tf r with
    |inl _=>rw[hr]at h;cases h
    |inr l=>
      rcases List.mem_cons.1 a with rfl|a
      .exact b
      .exact iJ hr e a
   .rw[Dm b]at h;cases h
theorem fP{tf:List Pa}{l:List Ex}(h:∀e∈l,(qF p tf e).2=0)(i:Nat):(qF p tf (l.getD i jj)).2=0:=by
 rw[Yk];cases hi:l[i]? with
 |none=>rfl
 |some e=>exact h e (Ye hi)
theorem xe{tf:List Pa}{e:Ex}(a:qu p tf e t=0):(qF p tf e).2=0:=by
 unfold qu at a;by_cases b:(qF p tf e).2=0
 .exact b
 .rw[Dl b]at a;exact a
theorem CK{td:C2}{m n o:Nat}{l:Bool}(a:zj k ty td m n o l=true):k=1\/k=2\/k=3\/k=4\/k=5\/k=6\/k=7\/k=8\/k=9\/k=10:=by
 unfold zj at a;by_cases b:k=1;· omega
 by_cases d:k=2;· omega
 by_cases e:k=3;· omega
 by_cases f:k=4;· omega
 by_cases g:k=5;· omega
 by_cases i:k=6\/k=7;· omega
 by_cases j:k=8\/k=9;· omega
 by_cases c:k=10;· omega
 rw[Dl b,Dl d,Dl e,Dl f,Dl g,Dl i,Dl j,Dl c]at a;cases a
theorem CL{f:Ex->RS->eD Int}:∀{l:List Ex}{s t:RS}{q:List Int},j0 f l s=.ok q t->q.length=l.length
 |[],s,t,q,h=>by rw[j0]at h;injection h with h _;subst h;rfl
 | e::r,s,t,q,h=>by
   rw[j0]at h;cases hx:f e s with
   |fin u=>rw[hx]at h;cases h
   |ok a u=>
     rw[hx]at h;have h:(j0 f r u).bind (fun l s=>eD.ok (a::l) s)=.ok q t:=h;cases hy:j0 f r u with
     |fin v=>rw[hy]at h;cases h
     |ok b v=>
       rw[hy]at h;injection h with h _;rw[<-h,Dp,Dp,CL hy]
def SR(v:List Pa)(b:qb)(x y:eD uK):Prop:=
 match x,y with
 |.ok h t,.ok h' t'=>h'.1=h.1/\h'.2.1=h.2.1/\t'=t/\EA v b h.2.2 h'.2.2
 |.fin t,.fin t'=>t'=t
 |_,_=>False
def SL(v:List Pa)(b:qb)(x d:eD uK):Prop:=
 match x,d with
 |.ok h t,.ok h' t'=>h'.1=h.1/\h'.2.1=h.2.1/\t'=t/\∃c a,EA (v++c) (b++a) h.2.2 h'.2.2
 |.fin t,.fin t'=>t'=t
 |_,_=>False
theorem SR.ok{b:qb}{h n:Int}{f:d2}{t:RS}(g:EA v b e f):SR v b (.ok (h,n,e) t) (.ok (h,n,f) t):=⟨rfl,rfl,rfl,g⟩
theorem SR.fin{b:qb}{t:RS}:SR v b (.fin t) (.fin t):=rfl
theorem SR.num{b:qb}{x c:eD Int}{f g:Int->RS->eD uK}(d:c=x)(e:∀a t,SR v b (f a t) (g a t)):SR v b (x.bind f) (c.bind g):=by
 subst d;cases c with
 |fin t=>exact SR.fin
 |ok a t=>exact e a t
theorem SR.ite{b:qb}{c:Prop}[Decidable c]{x e d f:eD uK}(g:c->SR v b x e)(i:¬c->SR v b d f):SR v b (if c then x else d) (if c then e else f):=by
 by_cases a:c
 .simp only[Dm a];exact g a
 .simp only[Dl a];exact i a
theorem YF{b:qb}{f g:d2->St->RS->eD uK}{d:d2}{l i:List St}(r:EA v b e d)(c:SL v b (kw f e l s) (kw g d i s)):SR v b (j9 f e l s) (j9 g d i s):=by
 unfold j9;cases hx:kw f e l s with
 |fin t=>
   rw[hx]at c;cases hy:kw g d i s with
   |fin j=>rw[hy]at c;exact c
   |ok a j=>rw[hy]at c;exact c.elim
 |ok a t=>
   rw[hx]at c;cases hy:kw g d i s with
   |fin j=>rw[hy]at c;exact c.elim
   |ok m j=>
     rw[hy]at c;obtain⟨n,o,p,_,y,q⟩:=c;obtain⟨u,w,x⟩:=r.len;refine⟨n,o,p,?_⟩;have k:=q.take v.length;rw[List.take_left,show(b++y).take v.length=b by rw[<-u,List.take_left]]at k;show EA v b (a.2.2.take e.length) (m.2.2.take d.length);rw[w,x];exact k
theorem LE{b:qb}{l m:d2->RS->eD Int}{B g:d2->RS->eD uK}(p:∀e f s,EA v b e f->m f s=l e s)(o:∀e f s,EA v b e f->SR v b (B e s) (g f s)):
 ∀(k:Nat) (e f:d2) (s:RS),EA v b e f->SR v b (EL l B k e s) (EL m g k f s)
 |0,e,f,s,_=>SR.fin
 | k+1,e,f,s,h=>by
   rw[EL,EL];refine SR.num (p e f s h) fun a t=>SR.ite (fun _=>SR.ok h) fun _=>?_
   have d:=o e f t h;cases hx:B e t with
   |fin q=>
     rw[hx]at d;cases hy:g f t with
     |fin j=>rw[hy]at d;exact d
     |ok c j=>rw[hy]at d;exact d.elim
   |ok c q=>
     rw[hx]at d;cases hy:g f t with
     |fin j=>rw[hy]at d;exact d.elim
     |ok c' j=>
       rw[hy]at d;obtain⟨n,r,u,i⟩:=d;show SR v b (if c.1=3 then _ else _) (if c'.1=3 then _ else _);rw[n,u];exact SR.ite (fun _=>⟨n,r,rfl,i⟩) fun _=>SR.ite (fun _=>SR.ok i) fun _=>LE p o k _ _ q i
def wR(p:Pr):Prop:=∀f∈p.funcs,(zW p f.type f.body f.params f.params.length false 0).1=0/\d3 f.body 100=true
theorem uv{s:C2}(h:jN p s=some f):f∈p.funcs:=by
 unfold jN at h;cases hk:qN p.funcs s with
 |none=>rw[hk]at h;cases h
 |some k=>rw[hk]at h;exact Ye h
theorem LF{b:qb}{f g:Ex->RS->eD Int}:∀(l:List Ex) (s:RS),(∀x∈l,∀s,g (vK b x) s=f x s)->j0 g (qO b l) s=j0 f l s
 |[],s,_=>by rw[qO,j0,j0]
 | x::r,s,h=>by
   rw[qO,j0,j0,h x (Y4 ..) s];cases f x s with
   |fin t=>rfl
   |ok a t=>
     show(j0 g (qO b r) t).bind _=(j0 f r t).bind _;rw[LF r t fun d c=>h d (Yz _ c)]
theorem o7(p:Pr)(c:Fu->List Int->RS->eD Int)(vs:d2)(op n:Int)(td:C2)(l:List Int)(s:RS):qX p c vs 7 op n td l s=match jN p td with|some f=>c f l (zl s)|none=>.fin s:=by
 unfold qX;rw[Dl Up,Dl Up,Dl Up,Dl Up,Dl Up,Dm rfl];rfl
theorem SH{b:qb}{f:d2}(o:EA v b e f)(r:(b.map (·.2)).Nodup){op n:Int}{td:C2}{m:Nat}(d:jp p v k td=true)(a:kb p k td m=true){l:List Int}(u:l.length=m){c c':Fu->List Int->RS->eD Int}
 (q:∀g∈p.funcs,l.length=g.params.length->∀s,c' (kq g) l s=c g l s) (s:RS):qX (qJ p) c' f k op n (if k=3 then o4 b td else td) l s=qX p c e k op n td l s:=by
 by_cases j:k=7
 .subst j
  rw[Dl Up,o7,o7,gU];cases hg:jN p td with
  |none=>rfl
  |some g=>
    unfold kb at a;rw[Dm rfl,hg]at a;exact q g (uv hg) (by rw[u];simpa using a) _
 unfold qX;by_cases i:k=3
 .subst i
  unfold jp at d;rw[Dm rfl]at d;obtain⟨t,w⟩:=Option.isSome_iff_exists.1 d;simp only[Dm];rw[Dl Up,Dl Up,o.get r w]
 .simp only[Dl i,Dl j]
  rfl
theorem sJ{td:C2}{tc:List Ex}{tg th:List St}{frm:Nat}{ti:Bool}(a:(yn p ft (.mk k ty td tc tg th) v frm ti n).1=0):
 qy p ft k ty td tc v frm ti=0/\(∃d n1,(zW p ft tg (jE k ty td v) (jE k ty td v).length d n1).1=0)/\∃e n2,(zW p ft th (jE k ty td v) (jE k ty td v).length e n2).1=0:=by
 rw[yn]at a;by_cases b:qy p ft k ty td tc v frm ti=0
 .rw[Dl Uz]at a
  by_cases c:(zW p ft tg (jE k ty td v) (jE k ty td v).length (ti || decide (k=5)) (n+1)).1=0
  .rw[Dl Xe]at a
   exact⟨b,⟨_,_,c⟩,_,_,a⟩
  .rw[Dm c]at a;exact absurd a c
 .rw[Dm b]at a;exact absurd a b
theorem uU{st:St}{r:List St}{frm:Nat}{ti:Bool}(a:(zW p ft (st::r) v frm ti n).1=0):
 (yn p ft st v frm ti n).1=0/\∃n1,(zW p ft r (B5 st v) frm ti n1).1=0:=by
 rw[zW]at a;by_cases b:(yn p ft st v frm ti n).1=0
 .rw[Dl Uz]at a;exact⟨b,_,a⟩
 .rw[Dm b]at a;exact absurd a b
theorem mG{td:C2}{tc:List Ex}{frm:Nat}{ti:Bool}(a:qy p ft k ty td tc v frm ti=0)(_:1<=k/\k<=10)(_:k≠6)(_:k≠7):
 (qF p v (tc.getD 0 jj)).2=0/\(k=3->(qF p v (tc.getD 1 jj)).2=0)/\(k=2->∃t,zX v td=some t):=by
 unfold qy at a;by_cases c:k=1
 .rw[Dm c]at a
  by_cases b:qu p v (tc.getD 0 jj) ty=0
  .exact⟨xe b,fun _=>O,fun _=>O⟩
  .rw[Dl b]at a;exact absurd a b
 rw[Dl c]at a;by_cases d:k=2
 .rw[Dm d]at a
  cases hv:zX v td with
  |none=>rw[hv]at a;exact absurd a Vd
  |some t=>rw[hv]at a;exact⟨xe a,fun _=>O,fun _=>⟨t,rfl⟩⟩
 rw[Dl d]at a;by_cases e:k=3
 .rw[Dm e]at a
  by_cases j:(ze p.wa td).isSome=true
  .rw[Dm j]at a
   by_cases b:qu p v (tc.getD 0 jj) 1=0
   .rw[Dm b]at a
    exact⟨xe b,fun _=>xe a,fun _=>O⟩
   .rw[Dl b]at a;exact absurd a b
  .rw[Dl j]at a;exact absurd a Up
 rw[Dl e]at a;by_cases f:k=4\/k=5
 .rw[Dm f]at a;exact⟨xe a,fun _=>O,fun _=>O⟩
 rw[Dl f]at a;by_cases g:k=8
 .rw[Dm g]at a;exact⟨xe a,fun _=>O,fun _=>O⟩
 rw[Dl g]at a;by_cases i:k=9
 .rw[Dm i]at a;exact⟨xe a,fun _=>O,fun _=>O⟩
 rw[Dl i]at a;by_cases l:k=10
 .rw[Dm l]at a;exact⟨a,fun _=>O,fun _=>O⟩
 omega
def YG(p:Pr)(g:Nat):Prop:=∀(v:List Pa) (b:qb) (e f:d2) (x:Ex) (s:RS),EA v b e f->(b.map (·.2)).Nodup->(qF p v x).2=0->uL (qJ p) g f (vK b x) s=uL p g e x s
def N2(p:Pr)(g:Nat):Prop:=∀(ft:Int) (st:St) (v:List Pa) (b:qb) (c:Nat) (e f:d2) (frm:Nat) (ti:Bool) (n:Nat) (s:RS) (m:Nat),EA v b e f->xl b c->fG st m=true->(yn p ft st v frm ti n).1=0->
 SR (B5 st v) (vy st b c) (kM p g e st s) (kM (qJ p) g f (jc st b c).1 s)
theorem N3(st:St)(v:List Pa):∃a,B5 st v=v++a:=by
 obtain⟨k,ty,td,tc,tg,th⟩:=st;show ∃a,jE k ty td v=v++a;unfold jE;split
 .exact⟨_,rfl⟩
 .exact⟨[],(D8 _).symm⟩
theorem IW(st:St)(b:qb)(c:Nat):∃a,vy st b c=b++a:=by
 obtain⟨k,ty,td,tc,tg,th⟩:=st;show ∃a,jV k td b c=b++a;unfold jV;split
 .exact⟨_,rfl⟩
 .exact⟨[],(D8 _).symm⟩
theorem SL.more{v' j:List Pa}{b g i:qb}{x e:eD uK}(p:v'=v++j)(o:g=b++i)(d:SL v' g x e):SL v b x e:=by
 subst p o;cases x with
 | fin t=>cases e with
   |fin f=>exact d
   |ok a f=>exact d.elim
 | ok a t=>cases e with
   |fin f=>exact d.elim
   |ok c f=>
     obtain⟨k,l,m,n1,n2,n⟩:=d;exact⟨k,l,m,j++n1,i++n2,by rw[<-D7,<-D7];exact n⟩
theorem E7(o:N2 p g)(ft:Int):∀(l:List St) (v:List Pa) (b:qb) (c:Nat) (e f:d2) (frm:Nat) (ti:Bool) (n:Nat) (s:RS) (m:Nat),EA v b e f->xl b c->d3 l m=true->(zW p ft l v frm ti n).1=0->
 SL v b (kw (kM p g) e l s) (kw (kM (qJ p) g) f (zO l b c).1 s)
 | [],v,b,c,e,f,frm,ti,n,s,m,hA,_,_,_=>by
   rw[zO,kw,kw];exact⟨rfl,rfl,rfl,[],[],by rw[D8,D8];exact hA⟩
 | st::r,v,b,c,e,f,frm,ti,n,s,m,hA,hF,hok,hc=>by
   rw[ji,Dv]at hok;obtain⟨y,n1,z⟩:=uU hc;have d:=o ft st v b c e f frm ti n s m hA hF hok.1 y;rw[zO];show SL v b (kw (kM p g) e (st::r) s) (kw (kM (qJ p) g) f ((jc st b c).1::(zO r (vy st b c) (jc st b c).2).1) s);rw[kw,kw];obtain⟨D,u⟩:=N3 st v;obtain⟨C,q⟩:=IW st b c
   have B:xl (vy st b c) (jc st b c).2:=by
    have A:=rE st b c;obtain⟨k,ty,td,tc,tg,th⟩:=st;exact(hF.let k td).mono A
   cases hx:kM p g e st s with
   |fin t=>
     rw[hx]at d;cases hy:kM (qJ p) g f (jc st b c).1 s with
     |fin j=>rw[hy]at d;exact d
     |ok a j=>rw[hy]at d;exact d.elim
   |ok a t=>
     rw[hx]at d;cases hy:kM (qJ p) g f (jc st b c).1 s with
     |fin j=>rw[hy]at d;exact d.elim
     |ok x j=>
       rw[hy]at d;obtain⟨w,E,F,q4⟩:=d;show SL v b (if a.1=0 then _ else _) (if x.1=0 then _ else _);rw[w,F];by_cases i:a.1=0
       .rw[Dm i,Dm i]
        exact(E7 o ft r _ _ _ _ _ frm ti n1 t m q4 B hok.2 z).more u q
       .rw[Dl i,Dl i]
        exact⟨w,E,rfl,D,C,by rw[<-u,<-q];exact q4⟩
theorem IX(d:N2 p g)(ft:Int)(l:List St)(v:List Pa)(b:qb)(c:Nat)(e f:d2)(frm:Nat)(ti:Bool)(n:Nat)(s:RS)(m:Nat)(a:EA v b e f)(hF:xl b c)(j:d3 l m=true)(i:(zW p ft l v frm ti n).1=0):SR v b (j9 (kM p g) e l s) (j9 (kM (qJ p) g) f (zO l b c).1 s):=
 YF a (E7 d ft l v b c e f frm ti n s m a hF j i)
theorem SI(F:wR p)(y:YG p g)(G:N2 p g):YG p (g+1):=by
 have D:=fun ft=>IX G ft
 intro v b e f x s m r L;obtain⟨k,op,n,td,tc⟩:=x;obtain⟨I,H,_,M⟩:=k6 L;have A:=iJ M;rw[vK,uL,uL];cases jJ s with
 |fin t=>rfl
 |ok _ t=>
   show(if k=5/\(op=18\/op=19)then _ else _)=(if k=5/\(op=18\/op=19)then _ else _)
   by_cases o:k=5/\(op=18\/op=19)
   .rw[Dm o,Dm o,kO,kO,y v b e f _ t m r (fP A 0)]
    cases uL p g e (tc.getD 0 jj) t with
    |fin j=>rfl
    |ok a j=>
      show(if decide (a≠0)=decide (op=19)then _ else _)=(if decide (a≠0)=decide (op=19)then _ else _)
      rw[y v b e f _ j m r (fP A 1)]
   .rw[Dl o,Dl o,LF (f:=uL p g e) tc t fun x u s=>y v b e f x s m r (A x u)]
    cases hy:j0 (uL p g e) tc t with
    |fin j=>rfl
    |ok l j=>
      refine SH (p:=p) (k:=k) (op:=op) (n:=n) (td:=td) (l:=l) (c:=fun f l s=>(j9 (kM p g) (d7 f l) f.body s).bind fun w s=>.ok w.2.1 s) (c':=fun f l s=>(j9 (kM (qJ p) g) (d7 f l) f.body s).bind fun w s=>.ok w.2.1 s) m r I H (CL hy) (fun q K J z=>?_) j;obtain⟨Q,R⟩:=F q K;have E:=EA.par q.params 0 l J;have d:=D q.type q.body q.params (eL q.params 0) q.params.length (d7 q l) (d7 (kq q) l) _ _ _ z 100 E (k5 q.params) R Q;show(j9 (kM (qJ p) g) (d7 (kq q) l) (zO q.body (eL q.params 0) q.params.length).1 z).bind _=(j9 (kM p g) (d7 q l) q.body z).bind _;cases u:j9 (kM p g) (d7 q l) q.body z with
      |fin B=>
        rw[u]at d;cases hz:j9 (kM (qJ p) g) (d7 (kq q) l) (zO q.body (eL q.params 0) q.params.length).1 z with
        |fin i=>rw[hz]at d;rw[show i=B from d]
        |ok a i=>rw[hz]at d;exact d.elim
      |ok a B=>
        rw[u]at d;cases hz:j9 (kM (qJ p) g) (d7 (kq q) l) (zO q.body (eL q.params 0) q.params.length).1 z with
        |fin i=>rw[hz]at d;exact d.elim
        |ok C i=>
          rw[hz]at d;obtain⟨_,N,P,_⟩:=d;show eD.ok C.2.1 i=eD.ok a.2.1 B;rw[N,P]
theorem SJ(G:YG p g)(I:N2 p g):N2 p (g+1):=by
 have y:=fun ft=>IX I ft
 intro ft st v b c e f frm ti n s m d hF q J;obtain⟨k,ty,td,tc,tg,th⟩:=st;obtain⟨L,⟨_,n1,A⟩,_,n2,H⟩:=sJ J;rw[jW]at q;simp only[Dv,decide_eq_true_eq]at q;have P:=CK q.1.1.1.2;rw[jc];show SR (jE k ty td v) (jV k td b c) _ (kM (qJ p) (g+1) f (.mk k ty (mE k td b c) (qO b tc) (zO tg (jV k td b c) (kY k c)).1 (zO th (jV k td b c) (zO tg (jV k td b c) (kY k c)).2).1) s);rw[kM,kM];cases jJ s with
 |fin t=>exact SR.fin
 |ok _ t=>
   show SR _ _ (if k=5 then _ else _) (if k=5 then _ else _);have B:k≠1->jE k ty td v=v/\jV k td b c=b/\kY k c=c:=fun i=>⟨by unfold jE;rw[Dl i],by unfold jV;rw[Dl i],by unfold kY;rw[Dl i]⟩
   rw[kO,kO];by_cases w:k=6
   .subst w
    exact Id
   by_cases x:k=7
   .subst x
    exact Id
   have z:=mG L O w x;have o:∀e f s,EA v b e f->uL (qJ p) g f (vK b (tc.getD 0 jj)) s=uL p g e (tc.getD 0 jj) s:=fun e f s i=>G v b e f _ s i hF.1 z.1
   by_cases u:k=1
   .subst u
    simp only[Int.reduceEq,reduceIte];refine SR.num (o e f t d) fun a t=>?_
    rw[show jE 1 ty td v=v++[⟨td,ty⟩]from Dm rfl,show jV 1 td b c=b++[(td,vN c)]from Dm rfl,mF];exact SR.ok (d.snoc td ty (vN c) a)
   obtain⟨j,l,r⟩:=B u;rw[j]at A H;rw[j,l,r];by_cases C:k=2
   .subst C
    simp only[Int.reduceEq,reduceIte];refine SR.num (o e f t d) fun a t=>?_
    obtain⟨_,M⟩:=z.2.2 rfl;rw[show mE 2 td b c=o4 b td by unfold mE;rw[Dm (.inr rfl),l]];exact SR.ok (d.put hF.1 M a)
   have K:mE k td b c=td:=by unfold mE;rw[Dl O]
   rw[K];by_cases D:k=3
   .subst D
    simp only[Int.reduceEq,reduceIte];refine SR.num (o e f t d) fun a t=>SR.num (G v b e f _ t d hF.1 (z.2.1 rfl)) fun n t=>?_
    show SR v b ((vD p td a n (zl t)).bind fun _ s=>.ok (0,0,e) s) ((vD p td a n (zl t)).bind fun _ s=>.ok (0,0,f) s);cases vD p td a n (zl t)with
    |fin N=>exact SR.fin
    |ok _ N=>exact SR.ok d
   by_cases E:k=4
   .subst E
    simp only[Int.reduceEq,reduceIte];refine SR.num (o e f t d) fun a t=>SR.ite (fun _=>?_) fun _=>?_
    .exact y ft tg v b c e f _ _ _ t (m-1) d hF q.1.2 A
    .exact y ft th v b _ e f _ _ _ t (m-1) d (hF.mono (yq tg b c)) q.2 H
   by_cases F:k=5
   .subst F
    simp only[reduceIte];exact LE o (fun e f s i=>y ft tg v b c e f _ _ _ s (m-1) i hF q.1.2 A) _ e f t d
   simp only[Dl F,Dl w,Dl x,Dl u,Dl C,Dl D,Dl E];refine SR.num (o e f t d) fun a t=>SR.ite (fun _=>SR.ok d) fun _=>SR.ite (fun _=>SR.ok d) fun _=>SR.ok d
theorem E8(p:Pr)(d:wR p):∀g,YG p g/\N2 p g
 |0=>⟨fun v b e f x s _ _ _=>by rw[uL,uL],fun ft st v b c e f frm ti n s m _ _ _ _=>by rw[kM,kM];exact SR.fin⟩
 | g+1=>by
   obtain⟨a,i⟩:=E8 p d g;exact⟨SI d a i,SJ a i⟩
structure g1 (p:Pr) (s:RS):Prop where
 len:s.arr.length=p.wa.length
 sp:s.spent=false
 st:s.stat=0
theorem g1.pay(h:g1 p s):g1 p (zl s):=⟨h.len,h.sp,h.st⟩
def qH{α:Type}(p:Pr):eD α->Prop
 |.ok _ t=>g1 p t
 |.fin t=>(t.spent=true/\t.stat=0/\t.fuel=0)\/(t.spent=false/\2<=t.stat/\t.stat<=4)
theorem qH.ok{α:Type}{a:α}(h:g1 p s):qH p (.ok a s):=h
theorem qH.end{α:Type}(b:g1 p s)(k:Int)(a:2<=k/\k<=4):qH p (.fin (yP s k):eD α):=.inr ⟨b.sp,a.1,a.2⟩
theorem qH.bind{α β:Type}{x:eD α}{f:α->RS->eD β}(b:qH p x)(c:∀a t,x=.ok a t->g1 p t->qH p (f a t)):qH p (x.bind f):=by
 cases x with
 |fin t=>exact b
 |ok a t=>exact c a t rfl b
theorem qH.ite{α:Type}{c:Prop}[Decidable c]{x b:eD α}(d:c->qH p x)(e:¬c->qH p b):qH p (if c then x else b):=by
 by_cases a:c
 .rw[Dm a];exact d a
 .rw[Dl a];exact e a
theorem uV(a:g1 p s):qH p (jJ s):=by
 obtain⟨_,_,out,_,b,_,_⟩:=s;cases b with
 |zero=>exact .inl ⟨rfl,a.st,rfl⟩
 |succ f=>exact⟨a.len,a.sp,a.st⟩
theorem E9{td:C2}(c:g1 p s){k:Nat}(a:ze p.wa td=some k):∃l,s.arr[k]?=some l:=by
 have b:k<p.wa.length:=by
  have e:∀(l:List Ar) (k:Nat),ze l td=some k->k<l.length:=by
   intro l
   induction l with
   |nil=>intro k a;cases a
   |cons x r d=>
     intro k a;rw[ze]at a;split at a
     .injection a with a;subst a;exact Ck _
     .cases hr:ze r td with
      |none=>rw[hr]at a;cases a
      |some j=>rw[hr]at a;injection a with a;have a:j+1=k:=a;have:=d j hr;rw[Dp];omega
  exact e _ _ a
 exact⟨_,Dz (by rw[c.len];exact b)⟩
theorem IY{td:C2}{i:Int}(a:g1 p s)(c:(ze p.wa td).isSome=true):qH p (o1 p td i s):=by
 obtain⟨k,b⟩:=Option.isSome_iff_exists.1 c;obtain⟨l,d⟩:=E9 a b;unfold o1;rw[b];dsimp only;rw[d];exact qH.ite (fun _=>qH.ok a) fun _=>qH.end a 3 Up
theorem IZ{td:C2}{i n:Int}(a:g1 p s)(c:(ze p.wa td).isSome=true):qH p (vD p td i n s):=by
 obtain⟨k,b⟩:=Option.isSome_iff_exists.1 c;obtain⟨l,d⟩:=E9 a b;unfold vD;rw[b];dsimp only;rw[d];exact qH.ite (fun _=>⟨by show(s.arr.set _ _).length=_;rw[Ce];exact a.len,a.sp,a.st⟩) fun _=>qH.end a 3 Up
theorem FA(a:g1 p s):qH p (k3 s):=by
 unfold k3;split
 .exact qH.end a 4 Up
 .exact⟨a.len,a.sp,a.st⟩
theorem N4{c:Fu->List Int->RS->eD Int}{n:Int}{td:C2}{l:List Int}(b:g1 p s)(d:jp p v k td=true)(o:∀g∈p.funcs,∀t,t.fuel=s.fuel->g1 p t->qH p (c g l t)):qH p (qX p c e k op n td l s):=by
 unfold qX;refine qH.ite (fun _=>qH.ok b) fun _=>qH.ite (fun _=>qH.ok b) fun _=>qH.ite (fun _=>qH.ok b.pay) fun _=>qH.ite (fun _=>qH.ite (fun _=>qH.ok b.pay) fun _=>qH.end b.pay 2 Up) fun _=>qH.ite (fun f=>?_) fun f=>qH.ite (fun m=>?_) fun _=>FA b.pay
 .subst f
  unfold jp at d;exact IY b.pay Xi
 .subst m
  unfold jp at d;have d:(qN p.funcs td).isSome=true:=Xi
  obtain⟨j,i⟩:=Option.isSome_iff_exists.1 d;cases hg:jN p td with
  |some g=>exact o g (uv hg) _ rfl b.pay
  |none=>
    exfalso;unfold jN at hg;rw[i]at hg
    have u:∀(l:List Fu) (k:Nat),qN l td=some k->k<l.length:=by
     intro l
     induction l with
     |nil=>intro k a;cases a
     |cons x r q=>
       intro k a;rw[qN]at a;split at a
       .injection a with a;subst a;exact Ck _
       .cases hr:qN r td with
        |none=>rw[hr]at a;cases a
        |some j=>rw[hr]at a;injection a with a;have a:j+1=k:=a;have:=q j hr;rw[Dp];omega
    have:=u _ _ i;rw[show(some j).bind (fun k=>p.funcs[k]?)=p.funcs[j]? from rfl,List.getElem?_eq_none_iff]at hg;omega
theorem sK{f:Ex->RS->eD Int}(b:∀x s,zw s 0 (f x s)):∀(l:List Ex) (s:RS),s.fuel<=g->g1 p s->(∀x∈l,∀s,s.fuel<=g->g1 p s->qH p (f x s))->qH p (j0 f l s)
 |[],s,_,hs,_=>qH.ok hs
 | x::r,s,hf,hs,h=>by
   rw[j0];refine(h x (Y4 ..) s hf hs).bind fun a t e c=>(sK b r t (by have:=((b x s).at e).1;omega) c fun j i=>h j (Yz _ i)).bind fun q _ _ d=>qH.ok d
def YH(p:Pr)(g:Nat):Prop:=∀(v:List Pa) (e:d2) (x:Ex) (s:RS),s.fuel<=g->g1 p s->(qF p v x).2=0->qH p (uL p g e x s)
def N5(p:Pr)(g:Nat):Prop:=∀(ft:Int) (st:St) (v:List Pa) (e:d2) (frm:Nat) (ti:Bool) (n:Nat) (s:RS) (m:Nat),s.fuel<=g->g1 p s->fG st m=true->(yn p ft st v frm ti n).1=0->qH p (kM p g e st s)
theorem AI(b:N5 p g)(ft:Int):∀(l:List St) (v:List Pa) (e:d2) (frm:Nat) (ti:Bool) (n:Nat) (s:RS) (m:Nat),s.fuel<=g->g1 p s->d3 l m=true->(zW p ft l v frm ti n).1=0->qH p (kw (kM p g) e l s)
 |[],v,e,frm,ti,n,s,m,_,hs,_,_=>qH.ok hs
 | st::r,v,e,frm,ti,n,s,m,hg,hs,hok,hc=>by
   rw[ji,Dv]at hok;obtain⟨d,n1,f⟩:=uU hc;rw[kw];exact(b ft st v e frm ti n s m hg hs hok.1 d).bind fun a t i c=>qH.ite (fun _=>AI b ft r _ _ frm ti n1 t m (by have:=((yA p g e st s).at i).1;omega) c hok.2 f) fun _=>qH.ok c
theorem uw(b:N5 p g)(ft:Int)(l:List St)(v:List Pa)(e:d2)(frm:Nat)(ti:Bool)(n:Nat)(s:RS)(m:Nat)(d:s.fuel<=g)(i:g1 p s)(f:d3 l m=true)(c:(zW p ft l v frm ti n).1=0):qH p (j9 (kM p g) e l s):=by
 unfold j9;exact(AI b ft l v e frm ti n s m d i f c).bind fun a t _ j=>qH.ok j
theorem FB{b:d2->RS->eD Int}{B:d2->RS->eD uK}(f:∀e s,zw s 1 (b e s))(gB:∀e s,zw s 0 (B e s))(j:∀e s,s.fuel<=g->g1 p s->qH p (b e s))(i:∀e s,s.fuel<=g->g1 p s->qH p (B e s)):
 ∀(k:Nat) (e:d2) (s:RS),s.fuel<k->s.fuel<=g->g1 p s->qH p (EL b B k e s)
 |0,_,s,h,_,_=>absurd h (Nat.not_lt_zero _)
 | k+1,e,s,h,hg,hs=>by
   rw[EL];refine(j e s hg hs).bind fun a t m l=>qH.ite (fun _=>qH.ok l) fun _=>?_
   have q:=((f e s).at m).1;refine(i e t O l).bind fun c o n d=>qH.ite (fun _=>qH.ok d) fun _=>qH.ite (fun _=>qH.ok d) fun _=>?_
   have r:=((gB e t).at n).1;exact FB f gB j i k _ o O O d
theorem wS(w:wR p)(c:YH p g)(y:N5 p g):YH p (g+1):=by
 intro v e x s _ F f;obtain⟨k,op,n,td,tc⟩:=x;obtain⟨C,_,_,G⟩:=k6 f;have d:=iJ G;rw[uL];refine(uV F).bind fun _ t m i=>?_
 have K:=(vT m).fuel;refine qH.ite (fun _=>?_) fun _=>?_
 .refine(c v e _ t O i (fP d 0)).bind fun a j B b=>qH.ite (fun _=>qH.ok b) fun _=>c v e _ j (by have:=((jk p g e _ t).at B).1;omega) b (fP d 1)
 .have u:=sK (p:=p) (g:=g) (fun x s=>(jk p g e x s).le (Dw _)) tc t O i fun x H s o r=>c v e x s o r (d x H)
  refine u.bind fun l j D b=>?_
  have L:=((l4 (fun x s=>(jk p g e x s).le (Dw _)) tc t).at D).1;refine N4 b C fun q E z _ A=>?_
  obtain⟨I,J⟩:=w q E;exact(uw y q.type q.body q.params (d7 q l) _ _ _ z 100 O A J I).bind fun a t _ f=>qH.ok f
theorem wT(q:YH p g)(r:N5 p g):N5 p (g+1):=by
 intro ft st v e frm ti n s m _ L d J;have H:∀vs l s,zw s 0 (j9 (kM p g) vs l s):=fun vs l s=>yW (fun vs t s=>(yA p g vs t s).le (Dw _)) vs l s
 obtain⟨k,ty,td,tc,tg,th⟩:=st;obtain⟨c,⟨_,n1,B⟩,_,n2,K⟩:=sJ J;rw[jW]at d;simp only[Dv,decide_eq_true_eq]at d;have P:=CK d.1.1.1.2;rw[kM];refine(uV L).bind fun _ t y j=>?_
 have D:=(vT y).fuel;have Q:k≠1->jE k ty td v=v:=fun C=>by unfold jE;rw[Dl C]
 refine qH.ite (fun E=>?_) fun E=>qH.ite (fun _=>qH.ok j) fun F=>qH.ite (fun _=>qH.ok j) fun G=>?_
 .have i:=mG c O O O
  exact FB (g:=g) (fun e s=>jk p g e _ s) (fun e s=>H e tg s) (fun e s f o=>q v e _ s f o i.1) (fun e s f o=>uw r ft tg _ e _ _ _ s (m-1) f o d.1.2 B) _ e t (Nat.lt_succ_self _) O j
 have i:=mG c O F G;refine(q v e _ t O j i.1).bind fun a u I b=>?_
 have f:=((jk p g e _ t).at I).1;refine qH.ite (fun _=>qH.ok b) fun y=>qH.ite (fun _=>qH.ok b) fun D=>qH.ite (fun z=>?_) fun _=>qH.ite (fun _=>qH.ite (fun _=>?_) fun _=>?_) fun _=>qH.ite (fun _=>qH.ok b) fun _=>qH.ite (fun _=>⟨b.len,b.sp,b.st⟩) fun _=>qH.ok b
 .refine(q v e _ u O b (i.2.1 z)).bind fun n w _ M=>(IZ M.pay ?_).bind fun _ x _ N=>qH.ok N
  subst z;unfold qy at c;rw[Dl Up,Dl Up,Dm rfl]at c;by_cases A:(ze p.wa td).isSome=true
  .exact A
  .rw[Dl A]at c;exact absurd c Up
 .exact uw r ft tg _ e _ _ _ u (m-1) O b d.1.2 B
 .exact uw r ft th _ e _ _ _ u (m-1) O b d.2 K
theorem xm(p:Pr)(c:wR p):∀g,YH p g/\N5 p g
 |0=>⟨fun v e x s f a _=>by rw[uL];exact .inl ⟨rfl,a.st,by show s.fuel=0;omega⟩,fun ft st v e frm ti n s m f a _ _=>by rw[kM];exact .inl ⟨rfl,a.st,by show s.fuel=0;omega⟩⟩
 | g+1=>by
   obtain⟨b,d⟩:=xm p c g;exact⟨wS c b d,wT b d⟩
