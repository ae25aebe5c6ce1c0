import Derived.Test.YtjadgpiafjdnfaaGreatDoorAoTyLl
set_option linter.unusedSimpArgs false
set_option linter.unusedVariables false
set_option maxRecDepth 100000
set_option maxHeartbeats 99000000
namespace Go.Proofs.YtjadgpiafjdnfaaGreatDoor
open Go.RowKit Tryz
theorem If{p:Prop}(h:p:=by
 go_ret
 exact⟨congrArg (fun n:Nat=>Ending.returned ((n:Int):Int)) q.o,rfl⟩):p:=h
variable{s:RS}{w:C7}{v u:C8}{n g L:Nat}{p:Pr}{f:Fu}{k ty ft:Int}
def LA(p:Pr):Prop:=(∀a∈p.wa,a.name.size<=maxLen)/\∀f∈p.funcs,f.name.size<=maxLen/\∀x∈f.params,x.name.size<=maxLen
theorem xV{s:C6}:∀{l:List Fu},(qQ l s).isSome=l.any fun f=>decide (f.name=s)
 |[]=>rfl
 | f::r=>by
   rw[qQ,Cj];by_cases h:f.name=s
   .simp[h]
   .rw[Dp h,Option.isSome_map,xV]
    simp[h]
theorem yZ{s:C6}:∀{l:List Ar},(zb l s).isSome=l.any fun f=>decide (f.name=s)
 |[]=>rfl
 | f::r=>by
   rw[zb,Cj];by_cases h:f.name=s
   .simp[h]
   .rw[Dp h,Option.isSome_map,yZ]
    simp[h]
theorem y6{s:C6}:∀{l:List Pa},(zw l s).isSome=l.any fun f=>decide (f.name=s)
 |[]=>rfl
 | f::r=>by
   rw[zw,Cj,<-y6 (l:=r)];cases zw r s with
   |some t=>simp
   |none=>
     by_cases h:f.name=s
     .simp[h]
     .simp[h]
theorem sG:∀l:List Pa,nod (l.map (·.name))= !lO l
 |[]=>rfl
 | x::r=>by
   rw[Y5,nod,lO,sG r,y6,List.any_map,Bool.not_or];rfl
theorem LB:∀(a b:List C6),nod (a++b)=(nod a&&nod b&&!(a.any fun s=>b.any fun x=>decide (x=s)))
 |[],b=>by simp[nod]
 | s::r,b=>by
   rw[Yv,nod,nod,LB r b,List.any_append,Cj];cases(r.any fun x=>decide (x=s))<;>cases(b.any fun x=>decide (x=s))<;>cases nod r<;>cases nod b<;>simp
theorem FO:∀l:List Fu,nod (l.map (·.name))= !CS l
 |[]=>rfl
 | x::r=>by
   rw[Y5,nod,CS,FO r,xV,List.any_map,Bool.not_or];rfl
theorem FP(p:Pr):∀l:List Ar,(nod (l.map (·.name))&&!((l.map (·.name)).any fun s=>(p.funcs.map (·.name)).any fun x=>decide (x=s)))= !uX p l
 |[]=>rfl
 | x::r=>by
   rw[Y5,nod,uX,Cj,Bool.not_or,Bool.not_or,Bool.not_or,<-FP p r,yZ,xV,List.any_map,List.any_map];simp only[Function.comp_def];cases(r.any fun f=>decide (f.name=x.name))<;>cases(p.funcs.any fun f=>decide (f.name=x.name))<;>simp
theorem FQ(p:Pr):nod (p.wa.map (·.name)++p.funcs.map (·.name))= !(uX p p.wa || CS p.funcs):=by
 rw[LB,FO,Bool.not_or,<-FP p p.wa];cases nod (p.wa.map (·.name))<;>cases CS p.funcs<;>simp
theorem AS{k:Nat}{e:TypeId}{l:List C6}(a:w.ownsRow k e 1 v n (l.map Value.string))(F:n=l.length)(i:l.length<=281474976710656):R3 w.heap.size w v l:=by
 subst F;rcases a.2 with⟨rfl,y⟩|⟨g,p,q,rfl,z,c,A,B,C,f⟩
 .obtain rfl:l=[]:=Yq y
  exact⟨none,0,rfl,D1 _,fun a=>absurd a Uu⟩
 .have E:g<w.heap.size:=(Array.getElem?_eq_some_iff.1 c).1
  refine⟨_,p,rfl,i,fun _=>⟨g,0,rfl,?_⟩⟩
  have D:∀j t,l[j]?=some t->w.cell? ⟨g,0+j,none⟩=some (.string t):=fun j t d=>by
   rw[Yz,Dv c]
   have b:(q.toList.take (l.length*1))[j]?=some (Value.string t):=by
    rw[f,Yn,d];rfl
   rw[Y8]at b;split at b
   .simpa using b
   .cases b
  clear a z c A B C f i
  have x:∀(m:List C6) (o:Nat),(∀j t,m[j]?=some t->w.cell? ⟨g,o+j,none⟩=some (.string t))->uv 1 (fun(s:C6) g o=>fK w.heap.size w g o (.string s)) m g o:=by
   intro m
   induction m with
   |nil=>intro _ _;trivial
   |cons t r G=>
     intro o a
     exact⟨⟨E,a 0 t rfl⟩,G (o+1) fun j u d=>by
      rw[show o+1+j=o+(j+1)by omega]
      exact a (j+1) u Xl⟩
  exact x l 0 D
theorem LC:(Tryz.prog.info? 9).map (fun i=>(i.zero,i.size,i.bytes))=some (some (.string ⟨#[]⟩),1,16):=by kernel_rfl
theorem oF{α β:Type}{f:α->β}{l:List α}{j:Nat}{x:α}(h:l[j]?=some x):(l.take (j+1)).map f=(l.take j).map f++[f x]:=by
 rw[Yt,h];simp
theorem uA(B:Nat)(p:Pr)(ab ad:C8)(w:C7)(R:B<=w.heap.size)(A:gN B w ab p.wa)(C:gO B w ad p.funcs)(_:p.wa.length<=1000000)(_:p.funcs.length<=1000000):
 C3 29 #[.agg #[ab,ad]] w fun e w'=>∃v,e=.returned v/\R3 w'.heap.size w' v (p.wa.map (·.name)++p.funcs.map (·.name))/\C2 w w':=by
 obtain⟨ae,al,rfl,_⟩:=A.form;obtain⟨af,am,rfl,_⟩:=C.form;obtain⟨aa,T,X,Y,Z⟩:=info_parts LC;have d:=U (Dt T (Dt X (Dt Y Z)));have ag:=U A;have ah:=U C;clear A C T X Y Z;go_enter func29,ntmps29;go_wp2_with fail
 go_loopw [3,11] (fun F iv wr=>∃j:Nat,j<=p.wa.length/\iv=.int .i64 j/\wr.ownsRow (w.heap.size+1) 9 1 F j (((p.wa.take j).map (·.name)).map Value.string)/\wr.heap[w.heap.size]?=some (qd ae p.wa.length al af p.funcs.length am)/\C2 w wr/\w.heap.size+1<=wr.heap.size) (fun _ iv _=>p.wa.length-(intOf iv).toNat)
 case atStart=>exact⟨0,D1 _,rfl,Yp _ _ _ _,Ds _ _,Zb.alloc Zr _,Uw⟩
 case round=>
  obtain⟨j,ap,rfl,b,r,c,aq⟩:=hrel;obtain⟨s,z,rfl⟩:=jE b;obtain⟨⟨_,_⟩,_⟩:=zG r;have ai:=U b;have ak:=U r;have K:=U c;by_cases E:j<p.wa.length
  .obtain⟨a,i⟩:∃e,p.wa[j]?=some e:=⟨_,D2 E⟩
   obtain⟨g,o,rfl,an,ar,au⟩:=(ag.o.below (c.mono R) Zr).cells i;have ao:g<wr.heap.size:=O
   have y:=U i;have x:=U (qX (qX b (.cells #[a.name,(a.size:Int)] 63)) (.cells #[a.name] 9));have t:=U (jg (wr.alloc (.cells #[a.name,(a.size:Int)] 63)) [.string a.name] 9 (wr.heap.size+1) Uu);clear i b r c
   go_wp2_with (at_builtin;refine wpList_append_own _ rfl (.tmp 15) (.tmp 18) _ rfl (w.heap.size+1) 9 aa _ 1 16 underlying67 d.o.1 d.o.2.1 d.o.2.2.1 d.o.2.2.2 rfl O (.slice s j z) j _ rfl (by exact x.o) ⟨wr.heap.size+1,0,none⟩ 1 1 [.string a.name] rfl rfl (by exact t.o) Uz Uy O Ut ?_
                intro av aw n m _;have l:=U m;have u:=U n
                clear n m)
   go_roundw
   case rel=>
    have q:∀k,(Value.slice s j z).ownBlock=some k->w.heap.size+1<=k:=fun k f=>(zQ ai.o k f).1;refine⟨j+1,O,by go_num,?_,?_,((K.o.alloc O _).alloc Ut _).grown l.o Ut fun k f=>by have:=q k f;omega,?_⟩
    .rw[oF y.o,Yj]
     exact u.o
    .exact(l.o.block _ Ut (fun e=>by have:=q _ e.symm;omega)).trans ((D7 _ _ _ Ut).trans ((D7 _ _ _ O).trans ak.o))
    .have:=l.o.size
     simp at this;omega
   case measure=>simp[intOf];omega
  .have D:j=p.wa.length:=by omega
   subst D;have aj:=U (show wr.ownsRow (w.heap.size+1) 9 1 (.slice s p.wa.length z) p.wa.length ((p.wa.map (·.name)).map Value.string)by rw[Ye Zr]at b;exact b);clear b c r;go_wp2_with fail
   go_loopw [3,24] (fun F iv G=>∃j:Nat,j<=p.funcs.length/\iv=.int .i64 j/\G.ownsRow (w.heap.size+1) 9 1 F (p.wa.length+j) ((p.wa.map (·.name)++(p.funcs.take j).map (·.name)).map Value.string)/\C2 w G/\w.heap.size+1<=G.heap.size) (fun _ iv _=>p.funcs.length-(intOf iv).toNat)
   case atStart=>exact⟨0,D1 _,rfl,by simpa using aj.o,K.o,aq⟩
   case round=>
    obtain⟨j,ap,rfl,b,c,_⟩:=hrel;obtain⟨H,N,rfl⟩:=jE b;have M:=U b;have L:=U c;by_cases E:j<p.funcs.length
    .obtain⟨a,i⟩:∃e,p.funcs[j]?=some e:=⟨_,D2 E⟩
     obtain⟨g,o,_,_,rfl,an,ar,au,_,_,W,S⟩:=(ah.o.below (c.mono R) Zr).cells i;obtain⟨I,P,rfl,_⟩:=W.form;obtain⟨J,Q,rfl,_⟩:=S.form;have y:=U i;have ao:g<wr.heap.size:=O;have x:=U (qX (qX b (.cells #[a.name,(a.type:Int),(I,a.params.length,P),(J,a.body.length,Q)] 83)) (.cells #[a.name] 9));have t:=U (jg (wr.alloc (.cells #[a.name,(a.type:Int),(I,a.params.length,P),(J,a.body.length,Q)] 83)) [.string a.name] 9 (wr.heap.size+1) Uu);clear i b c W S
     go_wp2_with (at_builtin;refine wpList_append_own _ rfl (.tmp 28) (.tmp 31) _ rfl (w.heap.size+1) 9 aa _ 1 16 underlying67 d.o.1 d.o.2.1 d.o.2.2.1 d.o.2.2.2 rfl O (.slice H (p.wa.length+j) N) (p.wa.length+j) _ rfl (by exact x.o) ⟨wr.heap.size+1,0,none⟩ 1 1 [.string a.name] rfl rfl (by exact t.o) Uz Uy O Ut ?_
                  intro av aw n m _;have l:=U m;have u:=U n
                  clear n m)
     go_roundw
     case rel=>
      have q:∀k,(Value.slice H (p.wa.length+j) N).ownBlock=some k->w.heap.size+1<=k:=fun k f=>(zQ M.o k f).1;refine⟨j+1,O,by go_num,?_,((L.o.alloc O _).alloc Ut _).grown l.o Ut fun k f=>by have:=q k f;omega,?_⟩
      .rw[oF y.o,<-Ya,Yj]
       exact u.o
      .have:=l.o.size
       simp at this;omega
     case measure=>simp[intOf];omega
    .have D:j=p.funcs.length:=by omega
     subst D;clear b c;go_wp2_with fail;go_ret;refine⟨_,rfl,?_,L.o⟩;have V:=M.o;rw[Ye Zr]at V;exact AS V Uu Ut
theorem lG(B:Nat)(p:Pr)(r:Bool)(G H:C8)(w:C7)(D:B<=w.heap.size)(u:gN B w G p.wa)(v:gO B w H p.funcs)(F:xh p=r):
 C3 30 #[.agg #[G,H]] w (Cz r w):=by
 obtain⟨i,q,rfl,_⟩:=u.form;obtain⟨j,s,rfl,_⟩:=v.form;have y:=U (u.below ((D5 B w).alloc D (qd i p.wa.length q j p.funcs.length s)) Zr);have l:=U (v.below ((D5 B w).alloc D (qd i p.wa.length q j p.funcs.length s)) Zr);have C:=U F;clear u v F;cases hk:qQ p.funcs ⟨#[109,97,105,110]⟩with
 |none=>
   have m:=U (show jy (qQ p.funcs ⟨#[109,97,105,110]⟩)= -1 by rw[hk];rfl);have n:=U (show xh p=false by unfold xh jU;rw[hk];rfl);clear hk;go_enter func30,ntmps30;go_wp2_with (go_at_call 58;(with_reducible refine(mK B p _ _ m.o _ _ _ Ut y.o l.o).mono ?_);rintro e d ⟨rfl,a⟩);go_ret;exact⟨zC (by rw[<-C.o,n.o]),(Zb.alloc Zr _).trans (a.mono Uu)⟩
 |some k=>
   obtain⟨f,c,_,_⟩:=xv hk;have m:=U (show jy (qQ p.funcs ⟨#[109,97,105,110]⟩)=(k:Int)by rw[hk];rfl);have n:=U (show xh p=(decide (f.type=1)&&decide (f.params.length=0))by unfold xh jU;rw[hk,Option.bind_some,c]);have J:=U c;have S:k<p.funcs.length:=(List.getElem?_eq_some_iff.1 c).1;clear hk c;have L:f.type=1/\f.params.length=0\/f.type=1/\f.params.length≠0\/f.type≠1:=O
   rcases L with⟨b,t⟩|⟨b,t⟩|b
   all_goals
    have z:=U b
    try have A:=U t
    try clear t
    clear b;go_enter func30,ntmps30
    go_wp2_with (go_at_call 58;(with_reducible refine(mK B p _ _ m.o _ _ _ Ut y.o l.o).mono ?_);rintro e d ⟨rfl,a⟩
                 have x:=(a.block w.heap.size Uu).trans (Ds w (qd i p.wa.length q j p.funcs.length s));obtain⟨⟨_,_⟩,_⟩:=zG x;have T:w.heap.size<d.heap.size:=zB x;obtain⟨g,o,_,_,rfl,_,_,M,N,_,E,K⟩:=(l.o.below (a.mono Ut) Zr).cells J.o;obtain⟨_,_,rfl,_⟩:=E.form;have R:g<d.heap.size:=O;have I:=C5 (C2 w d) ((Zb.alloc Zr _).trans (a.mono Uu))
                 try rw[z.o]at M
                 try rw[A.o]at N
                 clear a x E K)
    all_goals go_ret
    all_goals refine⟨zC ?_,I.o⟩
    all_goals
     rw[<-C.o,n.o];have P:=z.o
     try have Q:=A.o
     simp_all
abbrev FR(s:C6)(t:Int)(a b:C8):Obj:=.cells #[s,(t:Int),a,b] 83
theorem bdW{B:Nat}{a:C7}(h:Below B a w)(n:Nat):Below B a (w.drewN n):=h.trans ⟨rfl,rfl,rfl,Dz _,fun _ _=>rfl⟩
theorem R4(h:lO f.params=true):yq p f=(50,0):=by unfold yq;rw[Dq h]
theorem NR(a:lO f.params=false){R:Int×Nat}(c:zY p f.type f.body f.params f.params.length false 0=R)(b:R.1≠0):yq p f=R:=by
 unfold yq;rw[Dp (by rw[a];decide),c,Dq b]
theorem R5(a:lO f.params=false)(b:zY p f.type f.body f.params f.params.length false 0=(0,n)):yq p f=if fV f.body then(0,0)else(52,n):=by
 unfold yq;rw[Dp (by rw[a];decide),b,Dp (show ¬(0 :Int)≠0 by decide)]
theorem oG(b:f5 p=true)(c:f∈p.funcs):fL f.body 100=true/\f.params.length<=8:=by
 unfold f5 at b;rw[D3,Y9,Y9]at b;have a:=b.2 f c;unfold yo at a;simp only[D3,decide_eq_true_eq]at a;exact⟨a.2,a.1.1.2⟩
theorem mP(B:Nat)(p:Pr)(f:Fu)(ab:f5 p=true)(aF:LA p)(aa:f∈p.funcs)(bc bd be bf:C8)(w:C7)(q:B<=w.heap.size)(az:gN B w bc p.wa)(aC:gO B w bd p.funcs)(aE:gU B w be f.params)(aA:f6 B w bf f.body)(r:Int×Nat)(a3:yq p f=r):
 C3 31 #[.agg #[bc,bd],.agg #[f.name,(f.type:Int),be,bf]] w (Cz (.tuple #[(r.1:Int),(fX r.2:Int)]) w):=by
 obtain⟨b,d,rfl,_⟩:=az.form;obtain⟨c,i,rfl,_⟩:=aC.form;obtain⟨E,G,rfl,_⟩:=aE.form;obtain⟨F,H,rfl,_⟩:=aA.form;obtain⟨bG,a1,a6,a7,a8⟩:=info_parts LC;have bJ:=(oG ab aa).2;have X:=U (Dt a1 (Dt a6 (Dt a7 a8)));have aI:=U az;have aK:=U aC;have ap:=U aE;have aj:=U aA;have aq:=U a3;have Y:=U (oG ab aa).1;have aL:=U (IT ab);have bm:=U (aF.2 f aa).2;have aX:C2 w ((w.alloc (qd b p.wa.length d c p.funcs.length i)).alloc (FR f.name f.type (.slice E f.params.length G) (.slice F f.body.length H))):=(Zb.alloc Zr _).alloc Uu _;have bn:=U aX;have aN:=C5 (((w.alloc (qd b p.wa.length d c p.funcs.length i)).alloc (FR f.name f.type (.slice E f.params.length G) (.slice F f.body.length H))).heap[w.heap.size]?=some (qd b p.wa.length d c p.funcs.length i)) ((D7 _ _ _ Uu).trans (Ds w _));have aO:=C5 (((w.alloc (qd b p.wa.length d c p.funcs.length i)).alloc (FR f.name f.type (.slice E f.params.length G) (.slice F f.body.length H))).heap[w.heap.size+1]?=some (FR f.name f.type (.slice E f.params.length G) (.slice F f.body.length H))) (by simpa using Ds (w.alloc (qd b p.wa.length d c p.funcs.length i)) (FR f.name f.type (.slice E f.params.length G) (.slice F f.body.length H)));clear az aC aE aA a3 a1 a6 a7 a8 ab aF aa aX;go_enter func31,ntmps31;go_wp2_with fail
 go_loopw [6,14] (fun bH iv wr=>∃j:Nat,j<=f.params.length/\iv=.int .i64 j/\wr.ownsRow (w.heap.size+1+1) 9 1 bH j (((f.params.take j).map (·.name)).map Value.string)/\Below (w.heap.size+1+1) ((w.alloc (qd b p.wa.length d c p.funcs.length i)).alloc (FR f.name f.type (.slice E f.params.length G) (.slice F f.body.length H))) wr) (fun _ iv _=>f.params.length-(intOf iv).toNat)
 case atStart=>exact⟨0,D1 _,rfl,Yp _ _ _ _,D5 _ _⟩
 case round=>
  obtain⟨j,_,rfl,K,A⟩:=hrel;have aF:w.heap.size+1+1<=wr.heap.size:=by have:=A.size;simpa using this
  have ae:C2 w wr:=bn.o.trans (A.mono O);obtain⟨af,ay,rfl⟩:=jE K;obtain⟨⟨a9,ba⟩,bb⟩:=zG ((A.block w.heap.size O).trans aN.o);obtain⟨⟨aT,f1,aU,f3⟩,aV⟩:=zP ((A.block (w.heap.size+1) O).trans aO.o);have a4:w.heap.size<wr.heap.size:=O
  have ad:w.heap.size+1<wr.heap.size:=O
  have bj:=U K;have bg:=U A;have au:=U ae;by_cases bx:j<f.params.length
  .obtain⟨L,aG⟩:∃e,f.params[j]?=some e:=⟨_,D2 bx⟩
   obtain⟨g,o,rfl,_,_,_⟩:=(ap.o.below (ae.mono q) Zr).cells aG;have bK:g<wr.heap.size:=O
   have bp:=U aG;have bl:=U (qX (qX K (.cells #[L.name,(L.type:Int)] 95)) (.cells #[L.name] 9));have bi:=U (jg (wr.alloc (.cells #[L.name,(L.type:Int)] 95)) [.string L.name] 9 (wr.heap.size+1) Uu);clear aG K A ae
   go_wp2_with (at_builtin;refine wpList_append_own _ rfl (.tmp 18) (.tmp 21) _ rfl (w.heap.size+1+1) 9 bG _ 1 16 underlying67 X.o.1 X.o.2.1 X.o.2.2.1 X.o.2.2.2 rfl O (.slice af j ay) j _ rfl (by exact bl.o) ⟨wr.heap.size+1,0,none⟩ 1 1 [.string L.name] rfl rfl (by exact bi.o) Uz Uy O Ut ?_
                intro _ n a2 a0 _;have bh:=U a0;have bk:=U a2
                clear a2 a0)
   go_roundw
   case rel=>
    have bz:∀k,(Value.slice af j ay).ownBlock=some k->w.heap.size+1+1<=k:=fun k aD=>(zQ bj.o k aD).1;refine⟨j+1,O,by go_num,?_,((bg.o.alloc O _).alloc Ut _).grown bh.o Ut fun k aD=>bz k aD⟩;rw[oF bp.o,Yj];exact bk.o
   case measure=>simp[intOf];omega
  .have bw:j=f.params.length:=by omega
   subst bw;have am:=C5 (R3 wr.heap.size wr (.slice af f.params.length ay) (f.params.map (·.name))) (AS (by rw[Ye Zr]at K;exact K) Uu Ut)
   have ax:=U (show ∀s∈f.params.map (·.name),s.size<=maxLen from fun s bA=>by
    obtain⟨x,bF,rfl⟩:=List.mem_map.1 bA
    exact bm.o x bF)
   obtain⟨dp,aB⟩:=C4 (lO f.params);have ak:=U aB;have an:=U (show nod (f.params.map (·.name))= !dp by rw[sG,aB]);have aQ:=U ((A.block w.heap.size O).trans aN.o);have Z:=U ((A.block (w.heap.size+1) O).trans aO.o);clear K A ae aB;cases dp
   case true=>
    go_wp2_with (go_at_call 28;(with_reducible refine(kb wr.heap.size _ _ _ _ Zr am.o ax.o an.o).mono ?_);rintro e a ⟨rfl,l⟩)
    go_ret2
    have m:=R4 (p:=p) ak.o;rw[aq.o]at m;subst m;exact⟨rfl,au.o.trans (l.mono O)⟩
   case false=>
    obtain⟨⟨bv,n1⟩,aY⟩:=C4 (zY p f.type f.body f.params f.params.length false 0);have W:=U aY;obtain⟨bt,aW⟩:=C4 (fV f.body);have V:=U aW;clear aY aW;by_cases aZ:bv=0
    case neg=>
     go_wp2_with (go_at_call 28;(with_reducible refine(kb wr.heap.size _ _ _ _ Zr am.o ax.o an.o).mono ?_);rintro e a ⟨rfl,l⟩
                  obtain⟨⟨a9,ba⟩,bb⟩:=zG ((l.block w.heap.size a4).trans aQ.o);obtain⟨⟨aT,f1,aU,f3⟩,aV⟩:=zP ((l.block (w.heap.size+1) ad).trans Z.o);have av:=U ((l.block (w.heap.size+1) ad).trans Z.o);have S:w.heap.size+1<a.heap.size:=Gk;have bC:w.heap.size<a.heap.size:=O;have N:=C5 (C2 w a) (au.o.trans (l.mono O))
                  clear l)
     have T:C2 a (a.alloc (FJ (.slice b p.wa.length d) (.slice c p.funcs.length i) f.type 0)).drew:=(Zb.alloc Zr _).drew;have ar:=U T;have ah:=C5 ((a.alloc (FJ (.slice b p.wa.length d) (.slice c p.funcs.length i) f.type 0)).drew.heap[a.heap.size]?=some (FJ (.slice b p.wa.length d) (.slice c p.funcs.length i) f.type (fX 0))) (Ds a _);have ao:=U (ap.o.below ((N.o.trans (T.mono O)).mono q) Zr)
     go_region_held3 (fun w'=>w'.cell? (w.heap.size+1,2)=some (.slice E f.params.length G)/\w'.cell? (w.heap.size+1,3)=some (.slice F f.body.length H))
      (first
        |(go_split_ands;refine⟨?_,?_⟩ <;>(first|(rw[R];assumption)|(rw[J];assumption)))
        |go_keep)
      (first
        | (go_at_call 60
           (refine(yd (a.alloc (FJ (.slice b p.wa.length d) (.slice c p.funcs.length i) f.type 0)).drew (a.heap.size+1) (a.heap.size+1) B (.pointer none) (.pointer none) [] f.params _ Xr Xr (i1.nil _ _) Xr (hQ.none _ _ _ _ Zr) ao.o).mono ?_)
           rintro e n ⟨v',rfl,D,y⟩;obtain⟨aH,rfl⟩:=(D.fin (i1.nil _ _)).form;have z:C2 a n:=ar.o.trans (y.mono Xr);have J:∀x,n.cell? ⟨w.heap.size+1,x,none⟩=a.cell? ⟨w.heap.size+1,x,none⟩:=fun x=>z.cell (p:=⟨w.heap.size+1,x,none⟩) S;have bD:a.heap.size+1<=n.heap.size:=Dw (Dx (zA _ _).symm) y.size;have Q:=(y.block a.heap.size Hm).trans ah.o;have ai:=U Q;have t:C2 w n:=N.o.trans (z.mono O);have P:=U t;have al:=C5 (wX B (a.heap.size+1) p f.params (.slice b p.wa.length d) (.slice c p.funcs.length i) (.pointer aH) n) ⟨O,O,aI.o.below (t.mono q) Zr,aK.o.below (t.mono q) Zr,by rw[Yd]at D;exact D⟩;have ag:=U (aj.o.below (t.mono q) Zr);have aw:=U ((z.block (w.heap.size+1) S).trans av.o)
           clear D y z Q t)
        | (go_at_call 59
           (refine((sE 100).call Y.o aL.o W.o al.o O O ai.o ag.o).mono ?_)
           rintro e u ⟨rfl,C,I⟩;have R:∀x,u.cell? ⟨w.heap.size+1,x,none⟩=n.cell? ⟨w.heap.size+1,x,none⟩:=fun x=>C.cell O O;have J:∀x,u.cell? ⟨w.heap.size+1,x,none⟩=a.cell? ⟨w.heap.size+1,x,none⟩:=fun x=>(R x).trans (J x);obtain⟨⟨bq,br,bs,aR⟩,bu⟩:=zP I;have a5:a.heap.size<u.heap.size:=zB I;have v:=C5 (C2 w u) (P.o.trans (kZ C P.o.size O));have aP:=U ((C.block (k:=w.heap.size+1) O O).trans aw.o)
           clear C I))
     go_wp2_with fail
     go_quiet (fail)
     go_wp2_with fail
     go_ret2
     have m:=NR (p:=p) ak.o W.o aZ;rw[aq.o]at m;subst m;exact⟨rfl,bdW v.o _⟩
    case pos=>
     subst aZ
     go_wp2_with (go_at_call 28;(with_reducible refine(kb wr.heap.size _ _ _ _ Zr am.o ax.o an.o).mono ?_);rintro e a ⟨rfl,l⟩
                  obtain⟨⟨a9,ba⟩,bb⟩:=zG ((l.block w.heap.size a4).trans aQ.o);obtain⟨⟨aT,f1,aU,f3⟩,aV⟩:=zP ((l.block (w.heap.size+1) ad).trans Z.o);have av:=U ((l.block (w.heap.size+1) ad).trans Z.o);have S:w.heap.size+1<a.heap.size:=Gk;have bC:w.heap.size<a.heap.size:=O;have N:=C5 (C2 w a) (au.o.trans (l.mono O))
                  clear l)
     have T:C2 a (a.alloc (FJ (.slice b p.wa.length d) (.slice c p.funcs.length i) f.type 0)).drew:=(Zb.alloc Zr _).drew;have ar:=U T;have ah:=C5 ((a.alloc (FJ (.slice b p.wa.length d) (.slice c p.funcs.length i) f.type 0)).drew.heap[a.heap.size]?=some (FJ (.slice b p.wa.length d) (.slice c p.funcs.length i) f.type (fX 0))) (Ds a _);have ao:=U (ap.o.below ((N.o.trans (T.mono O)).mono q) Zr)
     go_region_held3 (fun w'=>w'.cell? (w.heap.size+1,2)=some (.slice E f.params.length G)/\w'.cell? (w.heap.size+1,3)=some (.slice F f.body.length H))
      (first
        |(go_split_ands;refine⟨?_,?_⟩ <;>(first|(rw[R];assumption)|(rw[J];assumption)))
        |go_keep)
      (first
        | (go_at_call 60
           (refine(yd (a.alloc (FJ (.slice b p.wa.length d) (.slice c p.funcs.length i) f.type 0)).drew (a.heap.size+1) (a.heap.size+1) B (.pointer none) (.pointer none) [] f.params _ Xr Xr (i1.nil _ _) Xr (hQ.none _ _ _ _ Zr) ao.o).mono ?_)
           rintro e n ⟨v',rfl,D,y⟩;obtain⟨aH,rfl⟩:=(D.fin (i1.nil _ _)).form;have z:C2 a n:=ar.o.trans (y.mono Xr);have J:∀x,n.cell? ⟨w.heap.size+1,x,none⟩=a.cell? ⟨w.heap.size+1,x,none⟩:=fun x=>z.cell (p:=⟨w.heap.size+1,x,none⟩) S;have bD:a.heap.size+1<=n.heap.size:=Dw (Dx (zA _ _).symm) y.size;have Q:=(y.block a.heap.size Hm).trans ah.o;have ai:=U Q;have t:C2 w n:=N.o.trans (z.mono O);have P:=U t;have al:=C5 (wX B (a.heap.size+1) p f.params (.slice b p.wa.length d) (.slice c p.funcs.length i) (.pointer aH) n) ⟨O,O,aI.o.below (t.mono q) Zr,aK.o.below (t.mono q) Zr,by rw[Yd]at D;exact D⟩;have ag:=U (aj.o.below (t.mono q) Zr);have aw:=U ((z.block (w.heap.size+1) S).trans av.o)
           clear D y z Q t)
        | (go_at_call 59
           (refine((sE 100).call Y.o aL.o W.o al.o O O ai.o ag.o).mono ?_)
           rintro e u ⟨rfl,C,I⟩;have R:∀x,u.cell? ⟨w.heap.size+1,x,none⟩=n.cell? ⟨w.heap.size+1,x,none⟩:=fun x=>C.cell O O;have J:∀x,u.cell? ⟨w.heap.size+1,x,none⟩=a.cell? ⟨w.heap.size+1,x,none⟩:=fun x=>(R x).trans (J x);obtain⟨⟨bq,br,bs,aR⟩,bu⟩:=zP I;have a5:a.heap.size<u.heap.size:=zB I;have v:=C5 (C2 w u) (P.o.trans (kZ C P.o.size O));have aP:=U ((C.block (k:=w.heap.size+1) O O).trans aw.o)
           clear C I))
     obtain⟨⟨_,_,_,_⟩,_⟩:=zP aP.o;have bL:w.heap.size+1<u.heap.size:=O;have aJ:=U (aj.o.below (v.o.mono q) Zr);have m:=R5 (p:=p) ak.o W.o;rw[aq.o]at m;have aM:=U m;clear m;cases bt
     case true=>
      go_wp2_with (go_at_call 61;(with_reducible refine((sB 100).call Y.o V.o (Dw q v.o.size) aJ.o).mono ?_);rintro e w8 ⟨rfl,M⟩)
      go_ret2
      have m:=aM.o;rw[V.o]at m;subst m;exact⟨rfl,v.o.trans (M.mono v.o.size)⟩
     case false=>
      go_wp2_with (go_at_call 61;(with_reducible refine((sB 100).call Y.o V.o (Dw q v.o.size) aJ.o).mono ?_);rintro e w8 ⟨rfl,M⟩
                   have aS:w8.cell? (a.heap.size,2+1)=some (.int .i64 (fX n1)):=(M.cell (p:=(a.heap.size,3)) a5).trans aR;have bI:w8.cell? (a.heap.size,3)=some (.int .i64 (fX n1)):=aS;have bM:a.heap.size<w8.heap.size:=(by have:=M.size;omega);have bo:=C5 (C2 w w8) (v.o.trans (M.mono v.o.size))
                   clear M aS)
      go_quiet (fail)
      go_wp2_with fail
      go_ret2
      have m:=aM.o;rw[V.o]at m;subst m;exact⟨rfl,bdW bo.o _⟩
theorem zAe{tf:List Pa}{op n:Int}{td:C6}{tc:List Ex}(a:(qF p tf (.mk k op n td tc)).2=0):kO p tf k td=true/\xS p k td tc.length=true/\∃l,qJ p tf tc=.inr l:=by
 rw[qF]at a;by_cases b:kO p tf k td=false
 .rw[Dq b]at a;exact absurd a Vk
 rw[Dp b]at a;by_cases c:xS p k td tc.length=false
 .rw[Dq c]at a;exact absurd a (by show(51 :Int)≠0;decide)
 rw[Dp c]at a;refine⟨Xb,Xk,?_⟩;cases hr:qJ p tf tc with
 |inl x=>rw[hr]at a;exact absurd a (AJ hr)
 |inr l=>exact⟨l,rfl⟩
theorem ud{tf:List Pa}:∀{l:List Ex}{c:List Int},qJ p tf l=.inr c->∀e∈l,(qF p tf e).2=0
 |[],_,_,e,a=>Xe
 | x::r,c,h,e,a=>by
   rw[qJ]at h;by_cases b:(qF p tf x).2=0
   .rw[Dp Xb]at h
    cases hr:qJ p tf r with
    |inl _=>rw[hr]at h;cases h
    |inr l=>
      rcases List.mem_cons.1 a with rfl|a
      .exact b
      .exact ud hr e a
   .rw[Dq b]at h;cases h
theorem sH{tf:List Pa}{l:List Ex}(h:∀e∈l,(qF p tf e).2=0)(i:Nat):(qF p tf (l.getD i j8)).2=0:=by
 rw[Yl];cases hi:l[i]? with
 |none=>rfl
 |some e=>exact h e (Yc hi)
theorem xa{tf:List Pa}{e:Ex}{t:Int}(a:jP p tf e t=0):(qF p tf e).2=0:=by
 unfold jP at a;by_cases b:(qF p tf e).2=0
 .exact b
 .rw[Dp b]at a;exact a
theorem DE{td:C6}{m n o:Nat}{l:Bool}(a:zo k ty td m n o l=true):k=1\/k=2\/k=3\/k=4\/k=5\/k=6\/k=7\/k=8\/k=9\/k=10:=by
 unfold zo at a;by_cases b:k=1;· omega
 by_cases d:k=2;· omega
 by_cases e:k=3;· omega
 by_cases f:k=4;· omega
 by_cases g:k=5;· omega
 by_cases i:k=6\/k=7;· omega
 by_cases j:k=8\/k=9;· omega
 by_cases c:k=10;· omega
 rw[Dp b,Dp d,Dp e,Dp f,Dp g,Dp i,Dp j,Dp c]at a;cases a
theorem LD{f:Ex->RS->fR Int}:∀{l:List Ex}{s t:RS}{q:List Int},i0 f l s=.ok q t->q.length=l.length
 |[],s,t,q,h=>by rw[i0]at h;injection h with h _;subst h;rfl
 | e::r,s,t,q,h=>by
   rw[i0]at h;cases hx:f e s with
   |fin u=>rw[hx]at h;cases h
   |ok a u=>
     rw[hx]at h;have h:(i0 f r u).bind (fun l s=>fR.ok (a::l) s)=.ok q t:=h;cases hy:i0 f r u with
     |fin v=>rw[hy]at h;cases h
     |ok b v=>
       rw[hy]at h;injection h with h _;rw[<-h,Du,Du,LD hy]
def gL(p:Pr):Prop:=∀f∈p.funcs,(zY p f.type f.body f.params f.params.length false 0).1=0/\fL f.body 100=true
theorem hV{s:C6}(h:jU p s=some f):f∈p.funcs:=by
 unfold jU at h;cases hk:qQ p.funcs s with
 |none=>rw[hk]at h;cases h
 |some k=>rw[hk]at h;exact Yc h
theorem sI{td:C6}{tc:List Ex}{tg th:List St}{v:List Pa}{frm:Nat}{ti:Bool}(a:(vA p ft (.mk k ty td tc tg th) v frm ti n).1=0):
 jH p ft k ty td tc v frm ti=0/\(∃d n1,(zY p ft tg (jf k ty td v) (jf k ty td v).length d n1).1=0)/\∃e n2,(zY p ft th (jf k ty td v) (jf k ty td v).length e n2).1=0:=by
 rw[vA]at a;by_cases b:jH p ft k ty td tc v frm ti=0
 .rw[Dp Xb]at a
  by_cases c:(zY p ft tg (jf k ty td v) (jf k ty td v).length (ti || decide (k=5)) (n+1)).1=0
  .rw[Dp Xk]at a
   exact⟨b,⟨_,_,c⟩,_,_,a⟩
  .rw[Dq c]at a;exact absurd a c
 .rw[Dq b]at a;exact absurd a b
theorem uB{st:St}{r:List St}{v:List Pa}{frm:Nat}{ti:Bool}(a:(zY p ft (st::r) v frm ti n).1=0):
 (vA p ft st v frm ti n).1=0/\∃n1,(zY p ft r (IN st v) frm ti n1).1=0:=by
 rw[zY]at a;by_cases b:(vA p ft st v frm ti n).1=0
 .rw[Dp Xb]at a;exact⟨b,_,a⟩
 .rw[Dq b]at a;exact absurd a b
theorem i4{td:C6}{tc:List Ex}{v:List Pa}{frm:Nat}{ti:Bool}(a:jH p ft k ty td tc v frm ti=0)(_:1<=k/\k<=10)(_:k≠6)(_:k≠7):
 (qF p v (tc.getD 0 j8)).2=0/\(k=3->(qF p v (tc.getD 1 j8)).2=0)/\(k=2->∃t,zw v td=some t):=by
 unfold jH at a;by_cases c:k=1
 .rw[Dq c]at a
  by_cases b:jP p v (tc.getD 0 j8) ty=0
  .exact⟨xa b,fun _=>O,fun _=>O⟩
  .rw[Dp b]at a;exact absurd a b
 rw[Dp c]at a;by_cases d:k=2
 .rw[Dq d]at a
  cases hv:zw v td with
  |none=>rw[hv]at a;exact absurd a Vk
  |some t=>rw[hv]at a;exact⟨xa a,fun _=>O,fun _=>⟨t,rfl⟩⟩
 rw[Dp d]at a;by_cases e:k=3
 .rw[Dq e]at a
  by_cases j:(zb p.wa td).isSome=true
  .rw[Dq j]at a
   by_cases b:jP p v (tc.getD 0 j8) 1=0
   .rw[Dq b]at a
    exact⟨xa b,fun _=>xa a,fun _=>O⟩
   .rw[Dp b]at a;exact absurd a b
  .rw[Dp j]at a;exact absurd a Us
 rw[Dp e]at a;by_cases f:k=4\/k=5
 .rw[Dq f]at a;exact⟨xa a,fun _=>O,fun _=>O⟩
 rw[Dp f]at a;by_cases g:k=8
 .rw[Dq g]at a;exact⟨xa a,fun _=>O,fun _=>O⟩
 rw[Dp g]at a;by_cases i:k=9
 .rw[Dq i]at a;exact⟨xa a,fun _=>O,fun _=>O⟩
 rw[Dp i]at a;by_cases l:k=10
 .rw[Dq l]at a;exact⟨a,fun _=>O,fun _=>O⟩
 omega
structure gQ (p:Pr) (s:RS):Prop where
 len:s.arr.length=p.wa.length
 sp:s.spent=false
 st:s.stat=0
theorem gQ.pay(h:gQ p s):gQ p (zW s):=⟨h.len,h.sp,h.st⟩
def zt{α:Type}(p:Pr):fR α->Prop
 |.ok _ t=>gQ p t
 |.fin t=>(t.spent=true/\t.stat=0/\t.fuel=0)\/(t.spent=false/\2<=t.stat/\t.stat<=4)
theorem zt.ok{α:Type}{a:α}(h:gQ p s):zt p (.ok a s):=h
theorem zt.end{α:Type}(b:gQ p s)(k:Int)(a:2<=k/\k<=4):zt p (.fin (kR s k):fR α):=.inr ⟨b.sp,a.1,a.2⟩
theorem zt.bind{α β:Type}{x:fR α}{f:α->RS->fR β}(b:zt p x)(c:∀a t,x=.ok a t->gQ p t->zt p (f a t)):zt p (x.bind f):=by
 cases x with
 |fin t=>exact b
 |ok a t=>exact c a t rfl b
theorem zt.ite{α:Type}{c:Prop}[Decidable c]{x b:fR α}(d:c->zt p x)(e:¬c->zt p b):zt p (if c then x else b):=by
 by_cases a:c
 .rw[Dq a];exact d a
 .rw[Dp a];exact e a
theorem uC(a:gQ p s):zt p (zk s):=by
 obtain⟨_,_,out,_,b,_,_⟩:=s;cases b with
 |zero=>exact .inl ⟨rfl,a.st,rfl⟩
 |succ f=>exact⟨a.len,a.sp,a.st⟩
theorem mQ{td:C6}(c:gQ p s){k:Nat}(a:zb p.wa td=some k):∃l,s.arr[k]?=some l:=by
 have b:k<p.wa.length:=by
  have e:∀(l:List Ar) (k:Nat),zb l td=some k->k<l.length:=by
   intro l
   induction l with
   |nil=>intro k a;cases a
   |cons x r d=>
     intro k a;rw[zb]at a;split at a
     .injection a with a;subst a;exact Ce _
     .cases hr:zb r td with
      |none=>rw[hr]at a;cases a
      |some j=>rw[hr]at a;injection a with a;have a:j+1=k:=a;have:=d j hr;rw[Du];omega
  exact e _ _ a
 exact⟨_,D2 (by rw[c.len];exact b)⟩
theorem I0{td:C6}{i:Int}(a:gQ p s)(c:(zb p.wa td).isSome=true):zt p (pG p td i s):=by
 obtain⟨k,b⟩:=Option.isSome_iff_exists.1 c;obtain⟨l,d⟩:=mQ a b;unfold pG;rw[b];dsimp only;rw[d];exact zt.ite (fun _=>zt.ok a) fun _=>zt.end a 3 Us
theorem I1{td:C6}{i n:Int}(a:gQ p s)(c:(zb p.wa td).isSome=true):zt p (yc p td i n s):=by
 obtain⟨k,b⟩:=Option.isSome_iff_exists.1 c;obtain⟨l,d⟩:=mQ a b;unfold yc;rw[b];dsimp only;rw[d];exact zt.ite (fun _=>⟨by show(s.arr.set _ _).length=_;rw[Yw];exact a.len,a.sp,a.st⟩) fun _=>zt.end a 3 Us
theorem FSq(a:gQ p s):zt p (vS s):=by
 unfold vS;split
 .exact zt.end a 4 Us
 .exact⟨a.len,a.sp,a.st⟩
theorem NS{v:List Pa}{c:Fu->List Int->RS->fR Int}{op n:Int}{td:C6}{l:List Int}{e:fG}(b:gQ p s)(d:kO p v k td=true)(o:∀g∈p.funcs,∀t,t.fuel=s.fuel->gQ p t->zt p (c g l t)):zt p (qR p c e k op n td l s):=by
 unfold qR;refine zt.ite (fun _=>zt.ok b) fun _=>zt.ite (fun _=>zt.ok b) fun _=>zt.ite (fun _=>zt.ok b.pay) fun _=>zt.ite (fun _=>zt.ite (fun _=>zt.ok b.pay) fun _=>zt.end b.pay 2 Us) fun _=>zt.ite (fun f=>?_) fun f=>zt.ite (fun m=>?_) fun _=>FSq b.pay
 .subst f
  unfold kO at d;exact I0 b.pay Xl
 .subst m
  unfold kO at d;have d:(qQ p.funcs td).isSome=true:=Xl
  obtain⟨j,i⟩:=Option.isSome_iff_exists.1 d;cases hg:jU p td with
  |some g=>exact o g (hV hg) _ rfl b.pay
  |none=>
    exfalso;unfold jU at hg;rw[i]at hg
    have u:∀(l:List Fu) (k:Nat),qQ l td=some k->k<l.length:=by
     intro l
     induction l with
     |nil=>intro k a;cases a
     |cons x r q=>
       intro k a;rw[qQ]at a;split at a
       .injection a with a;subst a;exact Ce _
       .cases hr:qQ r td with
        |none=>rw[hr]at a;cases a
        |some j=>rw[hr]at a;injection a with a;have a:j+1=k:=a;have:=q j hr;rw[Du];omega
    have:=u _ _ i;rw[show(some j).bind (fun k=>p.funcs[k]?)=p.funcs[j]? from rfl,List.getElem?_eq_none_iff]at hg;omega
theorem sJ{f:Ex->RS->fR Int}(b:∀x s,zx s 0 (f x s)):∀(l:List Ex) (s:RS),s.fuel<=g->gQ p s->(∀x∈l,∀s,s.fuel<=g->gQ p s->zt p (f x s))->zt p (i0 f l s)
 |[],s,_,hs,_=>zt.ok hs
 | x::r,s,hf,hs,h=>by
   rw[i0];refine(h x (Y4 ..) s hf hs).bind fun a t e c=>(sJ b r t (by have:=((b x s).at e).1;omega) c fun j i=>h j (Y7 _ i)).bind fun q u _ d=>zt.ok d
def XX(p:Pr)(g:Nat):Prop:=∀(v:List Pa) (e:fG) (x:Ex) (s:RS),s.fuel<=g->gQ p s->(qF p v x).2=0->zt p (f0 p g e x s)
def NT(p:Pr)(g:Nat):Prop:=∀(ft:Int) (st:St) (v:List Pa) (e:fG) (frm:Nat) (ti:Bool) (n:Nat) (s:RS) (m:Nat),s.fuel<=g->gQ p s->uQ st m=true->(vA p ft st v frm ti n).1=0->zt p (qo p g e st s)
theorem AT(b:NT p g)(ft:Int):∀(l:List St) (v:List Pa) (e:fG) (frm:Nat) (ti:Bool) (n:Nat) (s:RS) (m:Nat),s.fuel<=g->gQ p s->fL l m=true->(zY p ft l v frm ti n).1=0->zt p (kH (qo p g) e l s)
 |[],v,e,frm,ti,n,s,m,_,hs,_,_=>zt.ok hs
 | st::r,v,e,frm,ti,n,s,m,hg,hs,hok,hc=>by
   rw[ks,D3]at hok;obtain⟨d,n1,f⟩:=uB hc;rw[kH];exact(b ft st v e frm ti n s m hg hs hok.1 d).bind fun a t i c=>zt.ite (fun _=>AT b ft r _ _ frm ti n1 t m (by have:=((ku p g e st s).at i).1;omega) c hok.2 f) fun _=>zt.ok c
theorem xj(b:NT p g)(ft:Int)(l:List St)(v:List Pa)(e:fG)(frm:Nat)(ti:Bool)(n:Nat)(s:RS)(m:Nat)(d:s.fuel<=g)(i:gQ p s)(f:fL l m=true)(c:(zY p ft l v frm ti n).1=0):zt p (qH (qo p g) e l s):=by
 unfold qH;exact(AT b ft l v e frm ti n s m d i f c).bind fun a t _ j=>zt.ok j
theorem FT{b:fG->RS->fR Int}{B:fG->RS->fR yF}(f:∀e s,zx s 1 (b e s))(gB:∀e s,zx s 0 (B e s))(j:∀e s,s.fuel<=g->gQ p s->zt p (b e s))(i:∀e s,s.fuel<=g->gQ p s->zt p (B e s)):
 ∀(k:Nat) (e:fG) (s:RS),s.fuel<k->s.fuel<=g->gQ p s->zt p (k7 b B k e s)
 |0,_,s,h,_,_=>absurd h (Nat.not_lt_zero _)
 | k+1,e,s,h,hg,hs=>by
   rw[k7];refine(j e s hg hs).bind fun a t m l=>zt.ite (fun _=>zt.ok l) fun _=>?_;have o:=((f e s).at m).1;refine(i e t O l).bind fun c u n d=>zt.ite (fun _=>zt.ok d) fun _=>zt.ite (fun _=>zt.ok d) fun _=>?_;have q:=((gB e t).at n).1;exact FT f gB j i k _ u O O d
theorem xT(w:gL p)(c:XX p g)(y:NT p g):XX p (g+1):=by
 intro v e x s _ F f;obtain⟨k,op,n,td,tc⟩:=x;obtain⟨C,_,_,G⟩:=zAe f;have d:=ud G;rw[f0];refine(uC F).bind fun _ t j i=>?_;have K:=(vG j).fuel;refine zt.ite (fun _=>?_) fun _=>?_
 .refine(c v e _ t O i (sH d 0)).bind fun a u B b=>zt.ite (fun _=>zt.ok b) fun _=>c v e _ u (by have:=((qw p g e _ t).at B).1;omega) b (sH d 1)
 .have r:=sJ (p:=p) (g:=g) (fun x s=>(qw p g e x s).le (D1 _)) tc t O i fun x H s m o=>c v e x s m o (d x H)
  refine r.bind fun l u D b=>?_;have L:=((mG (fun x s=>(qw p g e x s).le (D1 _)) tc t).at D).1;refine NS b C fun q E z _ A=>?_;obtain⟨I,J⟩:=w q E;exact(xj y q.type q.body q.params (fN q l) _ _ _ z 100 O A J I).bind fun a t _ f=>zt.ok f
theorem x0(q:XX p g)(r:NT p g):NT p (g+1):=by
 intro ft st v e frm ti n s m _ L d J;have H:∀vs l s,zx s 0 (qH (qo p g) vs l s):=fun vs l s=>xi (fun vs t s=>(ku p g vs t s).le (D1 _)) vs l s;obtain⟨k,ty,td,tc,tg,th⟩:=st;obtain⟨c,⟨_,n1,B⟩,_,n2,K⟩:=sI J;rw[jp]at d;simp only[D3,decide_eq_true_eq]at d;have P:=DE d.1.1.1.2;rw[qo];refine(uC L).bind fun _ t y j=>?_;have D:=(vG y).fuel;have Q:k≠1->jf k ty td v=v:=fun C=>by unfold jf;rw[Dp C]
 refine zt.ite (fun E=>?_) fun E=>zt.ite (fun _=>zt.ok j) fun F=>zt.ite (fun _=>zt.ok j) fun G=>?_
 .have i:=i4 c O O O
  exact FT (g:=g) (fun e s=>qw p g e _ s) (fun e s=>H e tg s) (fun e s f o=>q v e _ s f o i.1) (fun e s f o=>xj r ft tg _ e _ _ _ s (m-1) f o d.1.2 B) _ e t (Nat.lt_succ_self _) O j
 have i:=i4 c O F G;refine(q v e _ t O j i.1).bind fun a u I b=>?_;have f:=((qw p g e _ t).at I).1;refine zt.ite (fun _=>zt.ok b) fun y=>zt.ite (fun _=>zt.ok b) fun D=>zt.ite (fun z=>?_) fun _=>zt.ite (fun _=>zt.ite (fun _=>?_) fun _=>?_) fun _=>zt.ite (fun _=>zt.ok b) fun _=>zt.ite (fun _=>⟨b.len,b.sp,b.st⟩) fun _=>zt.ok b
 .refine(q v e _ u O b (i.2.1 z)).bind fun n w _ M=>(I1 M.pay ?_).bind fun _ x _ N=>zt.ok N
  subst z;unfold jH at c;rw[Dp Us,Dp Us,Dq rfl]at c;by_cases A:(zb p.wa td).isSome=true
  .exact A
  .rw[Dp A]at c;exact absurd c Us
 .exact xj r ft tg _ e _ _ _ u (m-1) O b d.1.2 B
 .exact xj r ft th _ e _ _ _ u (m-1) O b d.2 K
theorem jW(p:Pr)(c:gL p):∀g,XX p g/\NT p g
 |0=>⟨fun v e x s f a _=>by rw[f0];exact .inl ⟨rfl,a.st,by show s.fuel=0;omega⟩,fun ft st v e frm ti n s m f a _ _=>by rw[qo];exact .inl ⟨rfl,a.st,by show s.fuel=0;omega⟩⟩
 | g+1=>by
   obtain⟨b,d⟩:=jW p c g;exact⟨xT c b d,x0 b d⟩
structure fF (X:Nat->Prop) (w w':C7):Prop where
 os:w'.os=w.os
 tape:w'.tape=w.tape
 output:w'.output=w.output
 size:w.heap.size<=w'.heap.size
 block:∀k,k<w.heap.size->¬X k->w'.heap[k]?=w.heap[k]?
section
variable {X Y:Nat->Prop} {w w' w2:C7}
theorem fF.refl(X:Nat->Prop)(w:C7):fF X w w:=⟨rfl,rfl,rfl,Dz _,fun _ _ _=>rfl⟩
theorem fF.trans(a:fF X w w')(g:fF Y w' w2)(d:∀k,k<w.heap.size->Y k->X k):fF X w w2:=
 ⟨g.os.trans a.os,g.tape.trans a.tape,g.output.trans a.output,Dw a.size g.size,fun k b c=>(g.block k (Yb b a.size) fun e=>c (d k b e)).trans (a.block k b c)⟩
theorem fF.mono(a:fF X w w')(c:∀k,k<w.heap.size->X k->Y k):fF Y w w':=⟨a.os,a.tape,a.output,a.size,fun k b e=>a.block k b fun d=>e (c k b d)⟩
theorem fF.wb(X:Nat->Prop)(a:C2 w w'):fF X w w':=⟨a.os,a.tape,a.output,a.size,fun k b _=>a.block k b⟩
theorem fF.below(a:fF X w w'){B:Nat}(c:B<=w.heap.size)(d:∀k,k<B->¬X k):Below B w w':=⟨a.os,a.tape,a.output,a.size,fun k b=>a.block k (Yb b c) (d k b)⟩
theorem fF.set(w:C7){g:Nat}(a:X g)(i:Nat)(u:C8):fF X w (w.setCell (g,i) u):=
 ⟨rfl,rfl,rfl,Ux,fun k _ b=>D0 w _ u k (fun e=>b (by have e:k=g:=e;rw[e];exact a))⟩
theorem fF.alloc(X:Nat->Prop)(w:C7)(o:Obj):fF X w (w.alloc o):=fF.wb X (Zb.alloc Zr o)
theorem fF.drew(X:Nat->Prop)(w:C7):fF X w w.drew:=fF.wb X Zb.drew
theorem fF.grown{b:Option Nat}(a:w.grownBy w' b)(d:∀k,b=some k->X k):fF X w w':=⟨a.os,a.tape,a.output,a.size,fun k c f=>a.block k c fun e=>f (d k e.symm)⟩
theorem fF.at{k:Nat}{o:Obj}(b:fF X w w')(c:¬X k)(a:w.heap[k]?=some o):w'.heap[k]?=some o:=(b.block k (Array.getElem?_eq_some_iff.1 a).1 c).trans a
end
def fM(L:Nat)(v v':C8):Prop:=v'.ownBlock=v.ownBlock\/∃g,v'.ownBlock=some g/\L<=g
theorem fM.refl(L:Nat)(v:C8):fM L v v:=.inl rfl
theorem fM.trans{d:Nat}{x:C8}(a:fM L u v)(g:fM d v x)(e:L<=d):fM L u x:=by
 rcases g with g|⟨k,b,c⟩
 .rcases a with a|⟨k,b,c⟩
  .exact .inl (g.trans a)
  .exact .inr ⟨k,g.trans b,c⟩
 .exact .inr ⟨k,b,Dw e c⟩
theorem fM.mono{a:Nat}(b:fM a u v)(c:L<=a):fM L u v:=(fM.refl L u).trans b c
theorem fM.not{k:Nat}(a:fM L u v)(_:k<L)(c:u.ownBlock≠some k):v.ownBlock≠some k:=by
 rcases a with a|⟨g,b,_⟩
 .rw[a];exact c
 .rw[b];intro e;injection e with e;omega
theorem fM.old{k:Nat}(b:fM L u v)(_:k<L)(a:v.ownBlock=some k):u.ownBlock=some k:=by
 rcases b with b|⟨g,c,_⟩
 .rw[<-b];exact a
 .rw[c]at a;injection a with a;omega
theorem fM.dj{v':C8}(a:kn w v v')(d:L<=w.heap.size):fM L v v':=by
 rcases a with a|⟨g,b,c⟩
 .exact .inl a
 .exact .inr ⟨g,b,Dw d c⟩
theorem DF{B:Nat}{e:TypeId}{i m c:Nat}{j:Option Addr}{o:List C8}(q:w.ownsRow B e i (.slice j n c) n o)(a:m<=n):w.ownsRow B e i (.slice j m c) m (o.take (m*i)):=by
 obtain⟨r,s⟩:=q;refine⟨by rw[Yg,r];exact Cb (Nat.mul_le_mul_right _ a),?_⟩;rcases s with⟨f,l⟩|⟨g,_,p,f,l,t,u,v,x,y⟩
 .injection f with b k d
  subst b k d;exact .inl ⟨by rw[Nat.le_zero.1 a],Nat.le_zero.1 a⟩
 .injection f with b k d
  subst b d;refine .inr ⟨g,c,p,rfl,l,t,Dw a u,v,x,?_⟩;rw[<-y,List.take_take,Cb (Nat.mul_le_mul_right _ a)]
theorem I2{l:List UInt8}(h:xM l=true):l≠[]/\l.all kl=true/\kT 0 l<9223372036854775808:=by
 simp only[xM,D3,decide_eq_true_eq]at h;refine⟨fun e=>?_,h.1.1.2,h.2⟩;rw[e]at h;simp at h
theorem sK(s:C6)(w:C7)(_:s.size<=281474976710656)(f:xM s.data.toList=true):
 C3 51 #[s] w (C0 ((kT 0 s.data.toList:Nat):Int) w):=by
 obtain⟨g,v,u⟩:=I2 f;have z:0<s.size:=by rw[Yf];exact List.length_pos_iff.2 g
 have L:s.toList.isEmpty=false:=by rw[Ym];simpa using g
 have p:=U v;have r:=U f;have j:=U u;clear g v f u;go_enter func51,ntmps51;go_wp2
 go_loop [3,4,5] (fun n i _=>∃(k m:Nat),k<=s.size/\i=.int .i64 k/\n=.int .i64 m/\m=kT 0 (s.data.toList.take k)/\m<9223372036854775808) (fun _ i _=>s.size-(intOf i).toNat)
 case atStart=>exact⟨0,0,D1 _,rfl,rfl,by rw[Yx,g6],O⟩
 case round=>
  obtain⟨k,m,_,rfl,rfl,x,_⟩:=hrel;have d:=U x;clear x;by_cases b:k<s.size
  .obtain⟨c,a⟩:∃c:Int,(s[k].toNat:Int)=c:=⟨_,rfl⟩
   have D:=uq s k b c a;have l:=U a;have C:=Q7 b p.o;have B:48<=c:=O
   have J:c<=57:=O
   clear a C
   have y:¬(9223372036854775807-(c-48)) / 10<(m:Int):=fun y=>by
    have:=z8 s k m b d.o c l.o B y;rw[r.o]at this;cases this
   go_wp2;have G:=l.o;have F:((m*10+(s[k].toNat-48):Nat):Int)=(m:Int)*10+(c-48):=O
   have E:=l5 s.data.toList (k+1);rw[iV b,iS,<-d.o]at E;have K:=j.o;go_round
   case rel=>exact⟨k+1,m*10+(s[k].toNat-48),O,by go_num,by rw[F],by rw[iV b,iS,<-d.o],O⟩
   case measure=>simp[intOf];omega
  .have e:k=s.size:=by omega
   subst e
   have q:Do (m=kT 0 s.data.toList):=by
    unfold Do;rw[d.o,Ye (by rw[<-Yf];exact Dz _)]
   obtain⟨c,a⟩:∃c:Int,(s[0].toNat:Int)=c:=⟨_,rfl⟩
   have D:=o7 s z c a
   have t:(decide (s.size=1) || decide (c≠48))=true:=by
    rw[<-r.o,EU s z p.o j.o];congr 1;rw[Yk];simp;omega
   have A:=U t;clear a t;by_cases H:1<s.size
   .have I:c≠48:=by
     have:=A.o;rw[decide_eq_false (show ¬s.size=1 by omega),Bool.false_or]at this;exact of_decide_eq_true this
    go_wp2;exact If
   .go_wp2
    exact If
