import Derived.Test.YthcmenajdcbnnaaGreatDoorAmTyLl
set_option linter.unusedSimpArgs false
set_option linter.unusedVariables false
set_option maxRecDepth 100000
set_option maxHeartbeats 99000000
namespace Go.Proofs.YthcmenajdcbnnaaGreatDoor
open Go.RowKit Tryz
theorem Ig{p:Prop}(h:p:=by
 go_ret
 exact⟨congrArg (fun n:Nat=>Ending.returned ((n:Int):Int)) q.o,rfl⟩):p:=h
variable{s:RS}{w:C3}{v u:C4}{n g L:Nat}{p:Pr}{f:Fu}{k ty ft:Int}
def KR(p:Pr):Prop:=(∀a∈p.wa,a.name.size<=maxLen)/\∀f∈p.funcs,f.name.size<=maxLen/\∀x∈f.params,x.name.size<=maxLen
theorem xS{s:C2}:∀{l:List Fu},(qP l s).isSome=l.any fun f=>decide (f.name=s)
 |[]=>rfl
 | f::r=>by
   rw[qP,Ci];by_cases h:f.name=s
   .simp[h]
   .rw[Dp h,Option.isSome_map,xS]
    simp[h]
theorem yS{s:C2}:∀{l:List Ar},(zZ l s).isSome=l.any fun f=>decide (f.name=s)
 |[]=>rfl
 | f::r=>by
   rw[zZ,Ci];by_cases h:f.name=s
   .simp[h]
   .rw[Dp h,Option.isSome_map,yS]
    simp[h]
theorem yT{s:C2}:∀{l:List Pa},(zv l s).isSome=l.any fun f=>decide (f.name=s)
 |[]=>rfl
 | f::r=>by
   rw[zv,Ci,<-yT (l:=r)];cases zv r s with
   |some t=>simp
   |none=>
     by_cases h:f.name=s
     .simp[h]
     .simp[h]
theorem sB:∀l:List Pa,nod (l.map (·.name))= !lL l
 |[]=>rfl
 | x::r=>by
   rw[Y5,nod,lL,sB r,yT,List.any_map,Bool.not_or];rfl
theorem KS:∀(a b:List C2),nod (a++b)=(nod a&&nod b&&!(a.any fun s=>b.any fun x=>decide (x=s)))
 |[],b=>by simp[nod]
 | s::r,b=>by
   rw[Yv,nod,nod,KS r b,List.any_append,Ci];cases(r.any fun x=>decide (x=s))<;>cases(b.any fun x=>decide (x=s))<;>cases nod r<;>cases nod b<;>simp
theorem EZ:∀l:List Fu,nod (l.map (·.name))= !us l
 |[]=>rfl
 | x::r=>by
   rw[Y5,nod,us,EZ r,xS,List.any_map,Bool.not_or];rfl
theorem E0(p:Pr):∀l:List Ar,(nod (l.map (·.name))&&!((l.map (·.name)).any fun s=>(p.funcs.map (·.name)).any fun x=>decide (x=s)))= !uR p l
 |[]=>rfl
 | x::r=>by
   rw[Y5,nod,uR,Ci,Bool.not_or,Bool.not_or,Bool.not_or,<-E0 p r,yS,xS,List.any_map,List.any_map];simp only[Function.comp_def];cases(r.any fun f=>decide (f.name=x.name))<;>cases(p.funcs.any fun f=>decide (f.name=x.name))<;>simp
theorem E1(p:Pr):nod (p.wa.map (·.name)++p.funcs.map (·.name))= !(uR p p.wa || us p.funcs):=by
 rw[KS,EZ,Bool.not_or,<-E0 p p.wa];cases nod (p.wa.map (·.name))<;>cases us p.funcs<;>simp
theorem AE{k:Nat}{e:TypeId}{l:List C2}(a:w.ownsRow k e 1 v n (l.map Value.string))(F:n=l.length)(i:l.length<=281474976710656):RE w.heap.size w v l:=by
 subst F;rcases a.2 with⟨rfl,y⟩|⟨g,p,q,rfl,z,c,A,B,C,f⟩
 .obtain rfl:l=[]:=Yq y
  exact⟨none,0,rfl,Dx _,fun a=>absurd a Uh⟩
 .have E:g<w.heap.size:=(Array.getElem?_eq_some_iff.1 c).1
  refine⟨_,p,rfl,i,fun _=>⟨g,0,rfl,?_⟩⟩
  have D:∀j t,l[j]?=some t->w.cell? ⟨g,0+j,none⟩=some (.string t):=fun j t d=>by
   rw[Yz,Du c]
   have b:(q.toList.take (l.length*1))[j]?=some (Value.string t):=by
    rw[f,Yn,d];rfl
   rw[Y8]at b;split at b
   .simpa using b
   .cases b
  clear a z c A B C f i
  have x:∀(m:List C2) (o:Nat),(∀j t,m[j]?=some t->w.cell? ⟨g,o+j,none⟩=some (.string t))->um 1 (fun(s:C2) g o=>fK w.heap.size w g o (.string s)) m g o:=by
   intro m
   induction m with
   |nil=>intro _ _;trivial
   |cons t r G=>
     intro o a
     exact⟨⟨E,a 0 t rfl⟩,G (o+1) fun j u d=>by
      rw[show o+1+j=o+(j+1)by omega]
      exact a (j+1) u Uy⟩
  exact x l 0 D
theorem KT:(Tryz.prog.info? 9).map (fun i=>(i.zero,i.size,i.bytes))=some (some (.string ⟨#[]⟩),1,16):=by kernel_rfl
theorem oD{α β:Type}{f:α->β}{l:List α}{j:Nat}{x:α}(h:l[j]?=some x):(l.take (j+1)).map f=(l.take j).map f++[f x]:=by
 rw[Yt,h];simp
theorem vq(B:Nat)(p:Pr)(ab ad:C4)(w:C3)(R:B<=w.heap.size)(A:gM B w ab p.wa)(C:gN B w ad p.funcs)(_:p.wa.length<=1000000)(_:p.funcs.length<=1000000):
 Cy 64 #[.agg #[ab,ad]] w fun e w'=>∃v,e=.returned v/\RE w'.heap.size w' v (p.wa.map (·.name)++p.funcs.map (·.name))/\Cx w w':=by
 obtain⟨ae,al,rfl,_⟩:=A.form;obtain⟨af,am,rfl,_⟩:=C.form;obtain⟨aa,T,X,Y,Z⟩:=info_parts KT;have d:=U (Dt T (Dt X (Dt Y Z)));have ag:=U A;have ah:=U C;clear A C T X Y Z;go_enter func64,ntmps64;go_wp2_with fail
 go_loopw [3,11] (fun F iv wr=>∃j:Nat,j<=p.wa.length/\iv=.int .i64 j/\wr.ownsRow (w.heap.size+1) 9 1 F j (((p.wa.take j).map (·.name)).map Value.string)/\wr.heap[w.heap.size]?=some (qg ae p.wa.length al af p.funcs.length am)/\Cx w wr/\w.heap.size+1<=wr.heap.size) (fun _ iv _=>p.wa.length-(intOf iv).toNat)
 case atStart=>exact⟨0,Dx _,rfl,Yp _ _ _ _,Ds _ _,Zb.alloc Zr _,Uj⟩
 case round=>
  obtain⟨j,ap,rfl,b,r,c,aq⟩:=hrel;obtain⟨s,z,rfl⟩:=jD b;obtain⟨⟨_,_⟩,_⟩:=zG r;have ai:=U b;have ak:=U r;have K:=U c;by_cases E:j<p.wa.length
  .obtain⟨a,i⟩:∃e,p.wa[j]?=some e:=⟨_,Dy E⟩
   obtain⟨g,o,rfl,an,ar,au⟩:=(ag.o.below (c.mono R) Zr).cells i;have ao:g<wr.heap.size:=O
   have y:=U i;have x:=U (qW (qW b (.cells #[a.name,(a.size:Int)] 80)) (.cells #[a.name] 9));have t:=U (je (wr.alloc (.cells #[a.name,(a.size:Int)] 80)) [.string a.name] 9 (wr.heap.size+1) Uh);clear i b r c
   go_wp2_with (at_builtin;refine wpList_append_own _ rfl (.tmp 15) (.tmp 18) _ rfl (w.heap.size+1) 9 aa _ 1 16 underlying59 d.o.1 d.o.2.1 d.o.2.2.1 d.o.2.2.2 rfl O (.slice s j z) j _ rfl (by exact x.o) ⟨wr.heap.size+1,0,none⟩ 1 1 [.string a.name] rfl rfl (by exact t.o) Um Ul O Ug ?_
                intro av aw n m _;have l:=U m;have u:=U n
                clear n m)
   go_roundw
   case rel=>
    have q:∀k,(Value.slice s j z).ownBlock=some k->w.heap.size+1<=k:=fun k f=>(zP ai.o k f).1
    refine⟨j+1,O,by go_num,?_,?_,((K.o.alloc O _).alloc Ug _).grown l.o Ug fun k f=>by have:=q k f;omega,?_⟩
    .rw[oD y.o,Yj]
     exact u.o
    .exact(l.o.block _ Ug (fun e=>by have:=q _ e.symm;omega)).trans ((D7 _ _ _ Ug).trans ((D7 _ _ _ O).trans ak.o))
    .have:=l.o.size
     simp at this;omega
   case measure=>simp[intOf];omega
  .have D:j=p.wa.length:=by omega
   subst D;have aj:=U (show wr.ownsRow (w.heap.size+1) 9 1 (.slice s p.wa.length z) p.wa.length ((p.wa.map (·.name)).map Value.string)by rw[Ye Zr]at b;exact b);clear b c r;go_wp2_with fail
   go_loopw [3,24] (fun F iv G=>∃j:Nat,j<=p.funcs.length/\iv=.int .i64 j/\G.ownsRow (w.heap.size+1) 9 1 F (p.wa.length+j) ((p.wa.map (·.name)++(p.funcs.take j).map (·.name)).map Value.string)/\Cx w G/\w.heap.size+1<=G.heap.size) (fun _ iv _=>p.funcs.length-(intOf iv).toNat)
   case atStart=>exact⟨0,Dx _,rfl,by simpa using aj.o,K.o,aq⟩
   case round=>
    obtain⟨j,ap,rfl,b,c,_⟩:=hrel;obtain⟨H,N,rfl⟩:=jD b;have M:=U b;have L:=U c;by_cases E:j<p.funcs.length
    .obtain⟨a,i⟩:∃e,p.funcs[j]?=some e:=⟨_,Dy E⟩
     obtain⟨g,o,_,_,rfl,an,ar,au,_,_,W,S⟩:=(ah.o.below (c.mono R) Zr).cells i;obtain⟨I,P,rfl,_⟩:=W.form;obtain⟨J,Q,rfl,_⟩:=S.form;have y:=U i;have ao:g<wr.heap.size:=O
     have x:=U (qW (qW b (.cells #[a.name,(a.type:Int),(I,a.params.length,P),(J,a.body.length,Q)] 93)) (.cells #[a.name] 9));have t:=U (je (wr.alloc (.cells #[a.name,(a.type:Int),(I,a.params.length,P),(J,a.body.length,Q)] 93)) [.string a.name] 9 (wr.heap.size+1) Uh);clear i b c W S
     go_wp2_with (at_builtin;refine wpList_append_own _ rfl (.tmp 28) (.tmp 31) _ rfl (w.heap.size+1) 9 aa _ 1 16 underlying59 d.o.1 d.o.2.1 d.o.2.2.1 d.o.2.2.2 rfl O (.slice H (p.wa.length+j) N) (p.wa.length+j) _ rfl (by exact x.o) ⟨wr.heap.size+1,0,none⟩ 1 1 [.string a.name] rfl rfl (by exact t.o) Um Ul O Ug ?_
                  intro av aw n m _;have l:=U m;have u:=U n
                  clear n m)
     go_roundw
     case rel=>
      have q:∀k,(Value.slice H (p.wa.length+j) N).ownBlock=some k->w.heap.size+1<=k:=fun k f=>(zP M.o k f).1
      refine⟨j+1,O,by go_num,?_,((L.o.alloc O _).alloc Ug _).grown l.o Ug fun k f=>by have:=q k f;omega,?_⟩
      .rw[oD y.o,<-Ya,Yj]
       exact u.o
      .have:=l.o.size
       simp at this;omega
     case measure=>simp[intOf];omega
    .have D:j=p.funcs.length:=by omega
     subst D;clear b c;go_wp2_with fail;go_ret;refine⟨_,rfl,?_,L.o⟩;have V:=M.o;rw[Ye Zr]at V;exact AE V Uh Ug
theorem lD(B:Nat)(p:Pr)(r:Bool)(G H:C4)(w:C3)(D:B<=w.heap.size)(u:gM B w G p.wa)(v:gN B w H p.funcs)(F:xe p=r):
 Cy 65 #[.agg #[G,H]] w (Cv r w):=by
 obtain⟨i,q,rfl,_⟩:=u.form;obtain⟨j,s,rfl,_⟩:=v.form;have y:=U (u.below ((D4 B w).alloc D (qg i p.wa.length q j p.funcs.length s)) Zr);have l:=U (v.below ((D4 B w).alloc D (qg i p.wa.length q j p.funcs.length s)) Zr);have C:=U F;clear u v F;cases hk:qP p.funcs ⟨#[109,97,105,110]⟩with
 |none=>
   have m:=U (show jw (qP p.funcs ⟨#[109,97,105,110]⟩)= -1 by rw[hk];rfl);have n:=U (show xe p=false by unfold xe jT;rw[hk];rfl);clear hk;go_enter func65,ntmps65;go_wp2_with (go_at_call 87;(with_reducible refine(mH B p _ _ m.o _ _ _ Ug y.o l.o).mono ?_);rintro e d ⟨rfl,a⟩);go_ret;exact⟨zC (by rw[<-C.o,n.o]),(Zb.alloc Zr _).trans (a.mono Uh)⟩
 |some k=>
   obtain⟨f,c,_,_⟩:=xq hk;have m:=U (show jw (qP p.funcs ⟨#[109,97,105,110]⟩)=(k:Int)by rw[hk];rfl);have n:=U (show xe p=(decide (f.type=1)&&decide (f.params.length=0))by unfold xe jT;rw[hk,Option.bind_some,c]);have J:=U c;have S:k<p.funcs.length:=(List.getElem?_eq_some_iff.1 c).1;clear hk c;have L:f.type=1/\f.params.length=0\/f.type=1/\f.params.length≠0\/f.type≠1:=O
   rcases L with⟨b,t⟩|⟨b,t⟩|b
   all_goals
    have z:=U b
    try have A:=U t
    try clear t
    clear b;go_enter func65,ntmps65
    go_wp2_with (go_at_call 87;(with_reducible refine(mH B p _ _ m.o _ _ _ Ug y.o l.o).mono ?_);rintro e d ⟨rfl,a⟩
                 have x:=(a.block w.heap.size Uh).trans (Ds w (qg i p.wa.length q j p.funcs.length s));obtain⟨⟨_,_⟩,_⟩:=zG x;have T:w.heap.size<d.heap.size:=zB x;obtain⟨g,o,_,_,rfl,_,_,M,N,_,E,K⟩:=(l.o.below (a.mono Ug) Zr).cells J.o;obtain⟨_,_,rfl,_⟩:=E.form;have R:g<d.heap.size:=O
                 have I:=C0 (Cx w d) ((Zb.alloc Zr _).trans (a.mono Uh))
                 try rw[z.o]at M
                 try rw[A.o]at N
                 clear a x E K)
    all_goals go_ret
    all_goals refine⟨zC ?_,I.o⟩
    all_goals
     rw[<-C.o,n.o];have P:=z.o
     try have Q:=A.o
     simp_all
abbrev E3(s:C2)(t:Int)(a b:C4):Obj:=.cells #[s,(t:Int),a,b] 93
theorem bdW{B:Nat}{a:C3}(h:Below B a w)(n:Nat):Below B a (w.drewN n):=h.trans ⟨rfl,rfl,rfl,D0 _,fun _ _=>rfl⟩
theorem RF(h:lL f.params=true):yj p f=(50,0):=by unfold yj;rw[Dq h]
theorem M5(a:lL f.params=false){R:Int×Nat}(c:zX p f.type f.body f.params f.params.length false 0=R)(b:R.1≠0):yj p f=R:=by
 unfold yj;rw[Dp (by rw[a];decide),c,Dq b]
theorem RG(a:lL f.params=false)(b:zX p f.type f.body f.params f.params.length false 0=(0,n)):yj p f=if fV f.body then(0,0)else(52,n):=by
 unfold yj;rw[Dp (by rw[a];decide),b,Dp (show ¬(0 :Int)≠0 by decide)]
theorem oE(b:f5 p=true)(c:f∈p.funcs):fL f.body 100=true/\f.params.length<=8:=by
 unfold f5 at b;rw[D2,Y9,Y9]at b;have a:=b.2 f c;unfold yh at a;simp only[D2,decide_eq_true_eq]at a;exact⟨a.2,a.1.1.2⟩
theorem mM(B:Nat)(p:Pr)(f:Fu)(ab:f5 p=true)(aF:KR p)(aa:f∈p.funcs)(bc bd be bf:C4)(w:C3)(q:B<=w.heap.size)(az:gM B w bc p.wa)(aC:gN B w bd p.funcs)(aE:gT B w be f.params)(aA:f6 B w bf f.body)(r:Int×Nat)(a3:yj p f=r):
 Cy 66 #[.agg #[bc,bd],.agg #[f.name,(f.type:Int),be,bf]] w (Cv (.tuple #[(r.1:Int),(fX r.2:Int)]) w):=by
 obtain⟨b,d,rfl,_⟩:=az.form;obtain⟨c,i,rfl,_⟩:=aC.form;obtain⟨E,G,rfl,_⟩:=aE.form;obtain⟨F,H,rfl,_⟩:=aA.form;obtain⟨bG,a1,a6,a7,a8⟩:=info_parts KT;have bJ:=(oE ab aa).2;have X:=U (Dt a1 (Dt a6 (Dt a7 a8)));have aI:=U az;have aK:=U aC;have ap:=U aE;have aj:=U aA;have aq:=U a3;have Y:=U (oE ab aa).1;have aL:=U (H7 ab);have bm:=U (aF.2 f aa).2;have aX:Cx w ((w.alloc (qg b p.wa.length d c p.funcs.length i)).alloc (E3 f.name f.type (.slice E f.params.length G) (.slice F f.body.length H))):=(Zb.alloc Zr _).alloc Uh _;have bn:=U aX;have aN:=C0 (((w.alloc (qg b p.wa.length d c p.funcs.length i)).alloc (E3 f.name f.type (.slice E f.params.length G) (.slice F f.body.length H))).heap[w.heap.size]?=some (qg b p.wa.length d c p.funcs.length i)) ((D7 _ _ _ Uh).trans (Ds w _));have aO:=C0 (((w.alloc (qg b p.wa.length d c p.funcs.length i)).alloc (E3 f.name f.type (.slice E f.params.length G) (.slice F f.body.length H))).heap[w.heap.size+1]?=some (E3 f.name f.type (.slice E f.params.length G) (.slice F f.body.length H))) (by simpa using Ds (w.alloc (qg b p.wa.length d c p.funcs.length i)) (E3 f.name f.type (.slice E f.params.length G) (.slice F f.body.length H)));clear az aC aE aA a3 a1 a6 a7 a8 ab aF aa aX;go_enter func66,ntmps66;go_wp2_with fail
 go_loopw [6,14] (fun bH iv wr=>∃j:Nat,j<=f.params.length/\iv=.int .i64 j/\wr.ownsRow (w.heap.size+1+1) 9 1 bH j (((f.params.take j).map (·.name)).map Value.string)/\Below (w.heap.size+1+1) ((w.alloc (qg b p.wa.length d c p.funcs.length i)).alloc (E3 f.name f.type (.slice E f.params.length G) (.slice F f.body.length H))) wr) (fun _ iv _=>f.params.length-(intOf iv).toNat)
 case atStart=>exact⟨0,Dx _,rfl,Yp _ _ _ _,D4 _ _⟩
 case round=>
  obtain⟨j,_,rfl,K,A⟩:=hrel;have aF:w.heap.size+1+1<=wr.heap.size:=by have:=A.size;simpa using this
  have ae:Cx w wr:=bn.o.trans (A.mono O);obtain⟨af,ay,rfl⟩:=jD K;obtain⟨⟨a9,ba⟩,bb⟩:=zG ((A.block w.heap.size O).trans aN.o);obtain⟨⟨aT,f1,aU,f3⟩,aV⟩:=zO ((A.block (w.heap.size+1) O).trans aO.o);have a4:w.heap.size<wr.heap.size:=O
  have ad:w.heap.size+1<wr.heap.size:=O
  have bj:=U K;have bg:=U A;have au:=U ae;by_cases bx:j<f.params.length
  .obtain⟨L,aG⟩:∃e,f.params[j]?=some e:=⟨_,Dy bx⟩
   obtain⟨g,o,rfl,_,_,_⟩:=(ap.o.below (ae.mono q) Zr).cells aG;have bK:g<wr.heap.size:=O
   have bp:=U aG;have bl:=U (qW (qW K (.cells #[L.name,(L.type:Int)] 100)) (.cells #[L.name] 9));have bi:=U (je (wr.alloc (.cells #[L.name,(L.type:Int)] 100)) [.string L.name] 9 (wr.heap.size+1) Uh);clear aG K A ae
   go_wp2_with (at_builtin;refine wpList_append_own _ rfl (.tmp 18) (.tmp 21) _ rfl (w.heap.size+1+1) 9 bG _ 1 16 underlying59 X.o.1 X.o.2.1 X.o.2.2.1 X.o.2.2.2 rfl O (.slice af j ay) j _ rfl (by exact bl.o) ⟨wr.heap.size+1,0,none⟩ 1 1 [.string L.name] rfl rfl (by exact bi.o) Um Ul O Ug ?_
                intro _ n a2 a0 _;have bh:=U a0;have bk:=U a2
                clear a2 a0)
   go_roundw
   case rel=>
    have bz:∀k,(Value.slice af j ay).ownBlock=some k->w.heap.size+1+1<=k:=fun k aD=>(zP bj.o k aD).1
    refine⟨j+1,O,by go_num,?_,((bg.o.alloc O _).alloc Ug _).grown bh.o Ug fun k aD=>bz k aD⟩;rw[oD bp.o,Yj];exact bk.o
   case measure=>simp[intOf];omega
  .have bw:j=f.params.length:=by omega
   subst bw;have am:=C0 (RE wr.heap.size wr (.slice af f.params.length ay) (f.params.map (·.name))) (AE (by rw[Ye Zr]at K;exact K) Uh Ug)
   have ax:=U (show ∀s∈f.params.map (·.name),s.size<=maxLen from fun s bA=>by
    obtain⟨x,bF,rfl⟩:=List.mem_map.1 bA
    exact bm.o x bF)
   obtain⟨dp,aB⟩:=Cz (lL f.params);have ak:=U aB;have an:=U (show nod (f.params.map (·.name))= !dp by rw[sB,aB]);have aQ:=U ((A.block w.heap.size O).trans aN.o);have Z:=U ((A.block (w.heap.size+1) O).trans aO.o);clear K A ae aB;cases dp
   case true=>
    go_wp2_with (go_at_call 63;(with_reducible refine(kZ wr.heap.size _ _ _ _ Zr am.o ax.o an.o).mono ?_);rintro e a ⟨rfl,l⟩)
    go_ret2
    have m:=RF (p:=p) ak.o;rw[aq.o]at m;subst m;exact⟨rfl,au.o.trans (l.mono O)⟩
   case false=>
    obtain⟨⟨bv,n1⟩,aY⟩:=Cz (zX p f.type f.body f.params f.params.length false 0);have W:=U aY;obtain⟨bt,aW⟩:=Cz (fV f.body);have V:=U aW;clear aY aW;by_cases aZ:bv=0
    case neg=>
     go_wp2_with (go_at_call 63;(with_reducible refine(kZ wr.heap.size _ _ _ _ Zr am.o ax.o an.o).mono ?_);rintro e a ⟨rfl,l⟩
                  obtain⟨⟨a9,ba⟩,bb⟩:=zG ((l.block w.heap.size a4).trans aQ.o);obtain⟨⟨aT,f1,aU,f3⟩,aV⟩:=zO ((l.block (w.heap.size+1) ad).trans Z.o);have av:=U ((l.block (w.heap.size+1) ad).trans Z.o);have S:w.heap.size+1<a.heap.size:=Js
                  have bC:w.heap.size<a.heap.size:=O
                  have N:=C0 (Cx w a) (au.o.trans (l.mono O))
                  clear l)
     have T:Cx a (a.alloc (ET (.slice b p.wa.length d) (.slice c p.funcs.length i) f.type 0)).drew:=(Zb.alloc Zr _).drew;have ar:=U T;have ah:=C0 ((a.alloc (ET (.slice b p.wa.length d) (.slice c p.funcs.length i) f.type 0)).drew.heap[a.heap.size]?=some (ET (.slice b p.wa.length d) (.slice c p.funcs.length i) f.type (fX 0))) (Ds a _);have ao:=U (ap.o.below ((N.o.trans (T.mono O)).mono q) Zr)
     go_region_held3 (fun w'=>w'.cell? (w.heap.size+1,2)=some (.slice E f.params.length G)/\w'.cell? (w.heap.size+1,3)=some (.slice F f.body.length H))
      (first
        |(go_split_ands;refine⟨?_,?_⟩ <;>(first|(rw[R];assumption)|(rw[J];assumption)))
        |go_keep)
      (first
        | (go_at_call 89
           (refine(y6 (a.alloc (ET (.slice b p.wa.length d) (.slice c p.funcs.length i) f.type 0)).drew (a.heap.size+1) (a.heap.size+1) B (.pointer none) (.pointer none) [] f.params _ Xd Xd (i0.nil _ _) Xd (hQ.none _ _ _ _ Zr) ao.o).mono ?_)
           rintro e n ⟨v',rfl,D,y⟩;obtain⟨aH,rfl⟩:=(D.fin (i0.nil _ _)).form;have z:Cx a n:=ar.o.trans (y.mono Xd);have J:∀x,n.cell? ⟨w.heap.size+1,x,none⟩=a.cell? ⟨w.heap.size+1,x,none⟩:=fun x=>z.cell (p:=⟨w.heap.size+1,x,none⟩) S
           have bD:a.heap.size+1<=n.heap.size:=Dz (Dv (zA _ _).symm) y.size;have Q:=(y.block a.heap.size Gr).trans ah.o;have ai:=U Q;have t:Cx w n:=N.o.trans (z.mono O);have P:=U t;have al:=C0 (wI B (a.heap.size+1) p f.params (.slice b p.wa.length d) (.slice c p.funcs.length i) (.pointer aH) n) ⟨O,O,aI.o.below (t.mono q) Zr,aK.o.below (t.mono q) Zr,by rw[Yd]at D;exact D⟩;have ag:=U (aj.o.below (t.mono q) Zr);have aw:=U ((z.block (w.heap.size+1) S).trans av.o)
           clear D y z Q t)
        | (go_at_call 88
           (refine((r9 100).call Y.o aL.o W.o al.o O O ai.o ag.o).mono ?_)
           rintro e u ⟨rfl,C,I⟩;have R:∀x,u.cell? ⟨w.heap.size+1,x,none⟩=n.cell? ⟨w.heap.size+1,x,none⟩:=fun x=>C.cell O O
           have J:∀x,u.cell? ⟨w.heap.size+1,x,none⟩=a.cell? ⟨w.heap.size+1,x,none⟩:=fun x=>(R x).trans (J x)
           obtain⟨⟨bq,br,bs,aR⟩,bu⟩:=zO I;have a5:a.heap.size<u.heap.size:=zB I;have v:=C0 (Cx w u) (P.o.trans (kY C P.o.size O));have aP:=U ((C.block (k:=w.heap.size+1) O O).trans aw.o)
           clear C I))
     go_wp2_with fail
     go_quiet (fail)
     go_wp2_with fail
     go_ret2
     have m:=M5 (p:=p) ak.o W.o aZ;rw[aq.o]at m;subst m;exact⟨rfl,bdW v.o _⟩
    case pos=>
     subst aZ
     go_wp2_with (go_at_call 63;(with_reducible refine(kZ wr.heap.size _ _ _ _ Zr am.o ax.o an.o).mono ?_);rintro e a ⟨rfl,l⟩
                  obtain⟨⟨a9,ba⟩,bb⟩:=zG ((l.block w.heap.size a4).trans aQ.o);obtain⟨⟨aT,f1,aU,f3⟩,aV⟩:=zO ((l.block (w.heap.size+1) ad).trans Z.o);have av:=U ((l.block (w.heap.size+1) ad).trans Z.o);have S:w.heap.size+1<a.heap.size:=Js
                  have bC:w.heap.size<a.heap.size:=O
                  have N:=C0 (Cx w a) (au.o.trans (l.mono O))
                  clear l)
     have T:Cx a (a.alloc (ET (.slice b p.wa.length d) (.slice c p.funcs.length i) f.type 0)).drew:=(Zb.alloc Zr _).drew;have ar:=U T;have ah:=C0 ((a.alloc (ET (.slice b p.wa.length d) (.slice c p.funcs.length i) f.type 0)).drew.heap[a.heap.size]?=some (ET (.slice b p.wa.length d) (.slice c p.funcs.length i) f.type (fX 0))) (Ds a _);have ao:=U (ap.o.below ((N.o.trans (T.mono O)).mono q) Zr)
     go_region_held3 (fun w'=>w'.cell? (w.heap.size+1,2)=some (.slice E f.params.length G)/\w'.cell? (w.heap.size+1,3)=some (.slice F f.body.length H))
      (first
        |(go_split_ands;refine⟨?_,?_⟩ <;>(first|(rw[R];assumption)|(rw[J];assumption)))
        |go_keep)
      (first
        | (go_at_call 89
           (refine(y6 (a.alloc (ET (.slice b p.wa.length d) (.slice c p.funcs.length i) f.type 0)).drew (a.heap.size+1) (a.heap.size+1) B (.pointer none) (.pointer none) [] f.params _ Xd Xd (i0.nil _ _) Xd (hQ.none _ _ _ _ Zr) ao.o).mono ?_)
           rintro e n ⟨v',rfl,D,y⟩;obtain⟨aH,rfl⟩:=(D.fin (i0.nil _ _)).form;have z:Cx a n:=ar.o.trans (y.mono Xd);have J:∀x,n.cell? ⟨w.heap.size+1,x,none⟩=a.cell? ⟨w.heap.size+1,x,none⟩:=fun x=>z.cell (p:=⟨w.heap.size+1,x,none⟩) S
           have bD:a.heap.size+1<=n.heap.size:=Dz (Dv (zA _ _).symm) y.size;have Q:=(y.block a.heap.size Gr).trans ah.o;have ai:=U Q;have t:Cx w n:=N.o.trans (z.mono O);have P:=U t;have al:=C0 (wI B (a.heap.size+1) p f.params (.slice b p.wa.length d) (.slice c p.funcs.length i) (.pointer aH) n) ⟨O,O,aI.o.below (t.mono q) Zr,aK.o.below (t.mono q) Zr,by rw[Yd]at D;exact D⟩;have ag:=U (aj.o.below (t.mono q) Zr);have aw:=U ((z.block (w.heap.size+1) S).trans av.o)
           clear D y z Q t)
        | (go_at_call 88
           (refine((r9 100).call Y.o aL.o W.o al.o O O ai.o ag.o).mono ?_)
           rintro e u ⟨rfl,C,I⟩;have R:∀x,u.cell? ⟨w.heap.size+1,x,none⟩=n.cell? ⟨w.heap.size+1,x,none⟩:=fun x=>C.cell O O
           have J:∀x,u.cell? ⟨w.heap.size+1,x,none⟩=a.cell? ⟨w.heap.size+1,x,none⟩:=fun x=>(R x).trans (J x)
           obtain⟨⟨bq,br,bs,aR⟩,bu⟩:=zO I;have a5:a.heap.size<u.heap.size:=zB I;have v:=C0 (Cx w u) (P.o.trans (kY C P.o.size O));have aP:=U ((C.block (k:=w.heap.size+1) O O).trans aw.o)
           clear C I))
     obtain⟨⟨_,_,_,_⟩,_⟩:=zO aP.o;have bL:w.heap.size+1<u.heap.size:=O
     have aJ:=U (aj.o.below (v.o.mono q) Zr);have m:=RG (p:=p) ak.o W.o;rw[aq.o]at m;have aM:=U m;clear m;cases bt
     case true=>
      go_wp2_with (go_at_call 90;(with_reducible refine((r6 100).call Y.o V.o (Dz q v.o.size) aJ.o).mono ?_);rintro e w8 ⟨rfl,M⟩)
      go_ret2
      have m:=aM.o;rw[V.o]at m;subst m;exact⟨rfl,v.o.trans (M.mono v.o.size)⟩
     case false=>
      go_wp2_with (go_at_call 90;(with_reducible refine((r6 100).call Y.o V.o (Dz q v.o.size) aJ.o).mono ?_);rintro e w8 ⟨rfl,M⟩
                   have aS:w8.cell? (a.heap.size,2+1)=some (.int .i64 (fX n1)):=(M.cell (p:=(a.heap.size,3)) a5).trans aR;have bI:w8.cell? (a.heap.size,3)=some (.int .i64 (fX n1)):=aS;have bM:a.heap.size<w8.heap.size:=by have:=M.size;omega
                   have bo:=C0 (Cx w w8) (v.o.trans (M.mono v.o.size))
                   clear M aS)
      go_quiet (fail)
      go_wp2_with fail
      go_ret2
      have m:=aM.o;rw[V.o]at m;subst m;exact⟨rfl,bdW bo.o _⟩
theorem ux{tf:List Pa}{op n:Int}{td:C2}{tc:List Ex}(a:(qE p tf (.mk k op n td tc)).2=0):kN p tf k td=true/\xQ p k td tc.length=true/\∃l,qI p tf tc=.inr l:=by
 rw[qE]at a;by_cases b:kN p tf k td=false
 .rw[Dq b]at a;exact absurd a Xv
 rw[Dp b]at a;by_cases c:xQ p k td tc.length=false
 .rw[Dq c]at a;exact absurd a (by show(51 :Int)≠0;decide)
 rw[Dp c]at a;refine⟨Uo,Ux,?_⟩;cases hr:qI p tf tc with
 |inl x=>rw[hr]at a;exact absurd a (z5 hr)
 |inr l=>exact⟨l,rfl⟩
theorem uW{tf:List Pa}:∀{l:List Ex}{c:List Int},qI p tf l=.inr c->∀e∈l,(qE p tf e).2=0
 |[],_,_,e,a=>Ur
 | x::r,c,h,e,a=>by
   rw[qI]at h;by_cases b:(qE p tf x).2=0
   .rw[Dp Uo]at h
    cases hr:qI p tf r with
    |inl _=>rw[hr]at h;cases h
    |inr l=>
      rcases List.mem_cons.1 a with rfl|a
      .exact b
      .exact uW hr e a
   .rw[Dq b]at h;cases h
theorem sC{tf:List Pa}{l:List Ex}(h:∀e∈l,(qE p tf e).2=0)(i:Nat):(qE p tf (l.getD i jZ)).2=0:=by
 rw[Yl];cases hi:l[i]? with
 |none=>rfl
 |some e=>exact h e (Yc hi)
theorem xY{tf:List Pa}{e:Ex}{t:Int}(a:jO p tf e t=0):(qE p tf e).2=0:=by
 unfold jO at a;by_cases b:(qE p tf e).2=0
 .exact b
 .rw[Dp b]at a;exact a
theorem CK{td:C2}{m n o:Nat}{l:Bool}(a:zn k ty td m n o l=true):k=1\/k=2\/k=3\/k=4\/k=5\/k=6\/k=7\/k=8\/k=9\/k=10:=by
 unfold zn at a;by_cases b:k=1;· omega
 by_cases d:k=2;· omega
 by_cases e:k=3;· omega
 by_cases f:k=4;· omega
 by_cases g:k=5;· omega
 by_cases i:k=6\/k=7;· omega
 by_cases j:k=8\/k=9;· omega
 by_cases c:k=10;· omega
 rw[Dp b,Dp d,Dp e,Dp f,Dp g,Dp i,Dp j,Dp c]at a;cases a
theorem KU{f:Ex->RS->fR Int}:∀{l:List Ex}{s t:RS}{q:List Int},iZ f l s=.ok q t->q.length=l.length
 |[],s,t,q,h=>by rw[iZ]at h;injection h with h _;subst h;rfl
 | e::r,s,t,q,h=>by
   rw[iZ]at h;cases hx:f e s with
   |fin u=>rw[hx]at h;cases h
   |ok a u=>
     rw[hx]at h;have h:(iZ f r u).bind (fun l s=>fR.ok (a::l) s)=.ok q t:=h;cases hy:iZ f r u with
     |fin v=>rw[hy]at h;cases h
     |ok b v=>
       rw[hy]at h;injection h with h _;rw[<-h,D1,D1,KU hy]
def gK(p:Pr):Prop:=∀f∈p.funcs,(zX p f.type f.body f.params f.params.length false 0).1=0/\fL f.body 100=true
theorem hV{s:C2}(h:jT p s=some f):f∈p.funcs:=by
 unfold jT at h;cases hk:qP p.funcs s with
 |none=>rw[hk]at h;cases h
 |some k=>rw[hk]at h;exact Yc h
theorem sD{td:C2}{tc:List Ex}{tg th:List St}{v:List Pa}{frm:Nat}{ti:Bool}(a:(yr p ft (.mk k ty td tc tg th) v frm ti n).1=0):
 jG p ft k ty td tc v frm ti=0/\(∃d n1,(zX p ft tg (jd k ty td v) (jd k ty td v).length d n1).1=0)/\∃e n2,(zX p ft th (jd k ty td v) (jd k ty td v).length e n2).1=0:=by
 rw[yr]at a;by_cases b:jG p ft k ty td tc v frm ti=0
 .rw[Dp Uo]at a
  by_cases c:(zX p ft tg (jd k ty td v) (jd k ty td v).length (ti || decide (k=5)) (n+1)).1=0
  .rw[Dp Ux]at a
   exact⟨b,⟨_,_,c⟩,_,_,a⟩
  .rw[Dq c]at a;exact absurd a c
 .rw[Dq b]at a;exact absurd a b
theorem vu{st:St}{r:List St}{v:List Pa}{frm:Nat}{ti:Bool}(a:(zX p ft (st::r) v frm ti n).1=0):
 (yr p ft st v frm ti n).1=0/\∃n1,(zX p ft r (H2 st v) frm ti n1).1=0:=by
 rw[zX]at a;by_cases b:(yr p ft st v frm ti n).1=0
 .rw[Dp Uo]at a;exact⟨b,_,a⟩
 .rw[Dq b]at a;exact absurd a b
theorem i3{td:C2}{tc:List Ex}{v:List Pa}{frm:Nat}{ti:Bool}(a:jG p ft k ty td tc v frm ti=0)(_:1<=k/\k<=10)(_:k≠6)(_:k≠7):
 (qE p v (tc.getD 0 jZ)).2=0/\(k=3->(qE p v (tc.getD 1 jZ)).2=0)/\(k=2->∃t,zv v td=some t):=by
 unfold jG at a;by_cases c:k=1
 .rw[Dq c]at a
  by_cases b:jO p v (tc.getD 0 jZ) ty=0
  .exact⟨xY b,fun _=>O,fun _=>O⟩
  .rw[Dp b]at a;exact absurd a b
 rw[Dp c]at a;by_cases d:k=2
 .rw[Dq d]at a
  cases hv:zv v td with
  |none=>rw[hv]at a;exact absurd a Xv
  |some t=>rw[hv]at a;exact⟨xY a,fun _=>O,fun _=>⟨t,rfl⟩⟩
 rw[Dp d]at a;by_cases e:k=3
 .rw[Dq e]at a
  by_cases j:(zZ p.wa td).isSome=true
  .rw[Dq j]at a
   by_cases b:jO p v (tc.getD 0 jZ) 1=0
   .rw[Dq b]at a
    exact⟨xY b,fun _=>xY a,fun _=>O⟩
   .rw[Dp b]at a;exact absurd a b
  .rw[Dp j]at a;exact absurd a Uf
 rw[Dp e]at a;by_cases f:k=4\/k=5
 .rw[Dq f]at a;exact⟨xY a,fun _=>O,fun _=>O⟩
 rw[Dp f]at a;by_cases g:k=8
 .rw[Dq g]at a;exact⟨xY a,fun _=>O,fun _=>O⟩
 rw[Dp g]at a;by_cases i:k=9
 .rw[Dq i]at a;exact⟨xY a,fun _=>O,fun _=>O⟩
 rw[Dp i]at a;by_cases l:k=10
 .rw[Dq l]at a;exact⟨a,fun _=>O,fun _=>O⟩
 omega
structure gP (p:Pr) (s:RS):Prop where
 len:s.arr.length=p.wa.length
 sp:s.spent=false
 st:s.stat=0
theorem gP.pay(h:gP p s):gP p (zV s):=⟨h.len,h.sp,h.st⟩
def zr{α:Type}(p:Pr):fR α->Prop
 |.ok _ t=>gP p t
 |.fin t=>(t.spent=true/\t.stat=0/\t.fuel=0)\/(t.spent=false/\2<=t.stat/\t.stat<=4)
theorem zr.ok{α:Type}{a:α}(h:gP p s):zr p (.ok a s):=h
theorem zr.end{α:Type}(b:gP p s)(k:Int)(a:2<=k/\k<=4):zr p (.fin (kQ s k):fR α):=.inr ⟨b.sp,a.1,a.2⟩
theorem zr.bind{α β:Type}{x:fR α}{f:α->RS->fR β}(b:zr p x)(c:∀a t,x=.ok a t->gP p t->zr p (f a t)):zr p (x.bind f):=by
 cases x with
 |fin t=>exact b
 |ok a t=>exact c a t rfl b
theorem zr.ite{α:Type}{c:Prop}[Decidable c]{x b:fR α}(d:c->zr p x)(e:¬c->zr p b):zr p (if c then x else b):=by
 by_cases a:c
 .rw[Dq a];exact d a
 .rw[Dp a];exact e a
theorem vw(a:gP p s):zr p (zj s):=by
 obtain⟨_,_,out,_,b,_,_⟩:=s;cases b with
 |zero=>exact .inl ⟨rfl,a.st,rfl⟩
 |succ f=>exact⟨a.len,a.sp,a.st⟩
theorem mN{td:C2}(c:gP p s){k:Nat}(a:zZ p.wa td=some k):∃l,s.arr[k]?=some l:=by
 have b:k<p.wa.length:=by
  have e:∀(l:List Ar) (k:Nat),zZ l td=some k->k<l.length:=by
   intro l
   induction l with
   |nil=>intro k a;cases a
   |cons x r d=>
     intro k a;rw[zZ]at a;split at a
     .injection a with a;subst a;exact Cd _
     .cases hr:zZ r td with
      |none=>rw[hr]at a;cases a
      |some j=>rw[hr]at a;injection a with a;have a:j+1=k:=a;have:=d j hr;rw[D1];omega
  exact e _ _ a
 exact⟨_,Dy (by rw[c.len];exact b)⟩
theorem IE{td:C2}{i:Int}(a:gP p s)(c:(zZ p.wa td).isSome=true):zr p (o9 p td i s):=by
 obtain⟨k,b⟩:=Option.isSome_iff_exists.1 c;obtain⟨l,d⟩:=mN a b;unfold o9;rw[b];dsimp only;rw[d];exact zr.ite (fun _=>zr.ok a) fun _=>zr.end a 3 Uf
theorem IF{td:C2}{i n:Int}(a:gP p s)(c:(zZ p.wa td).isSome=true):zr p (yZ p td i n s):=by
 obtain⟨k,b⟩:=Option.isSome_iff_exists.1 c;obtain⟨l,d⟩:=mN a b;unfold yZ;rw[b];dsimp only;rw[d];exact zr.ite (fun _=>⟨by show(s.arr.set _ _).length=_;rw[Yw];exact a.len,a.sp,a.st⟩) fun _=>zr.end a 3 Uf
theorem E5(a:gP p s):zr p (vL s):=by
 unfold vL;split
 .exact zr.end a 4 Uf
 .exact⟨a.len,a.sp,a.st⟩
theorem M6{v:List Pa}{c:Fu->List Int->RS->fR Int}{op n:Int}{td:C2}{l:List Int}{e:fG}(b:gP p s)(d:kN p v k td=true)(o:∀g∈p.funcs,∀t,t.fuel=s.fuel->gP p t->zr p (c g l t)):zr p (qQ p c e k op n td l s):=by
 unfold qQ;refine zr.ite (fun _=>zr.ok b) fun _=>zr.ite (fun _=>zr.ok b) fun _=>zr.ite (fun _=>zr.ok b.pay) fun _=>zr.ite (fun _=>zr.ite (fun _=>zr.ok b.pay) fun _=>zr.end b.pay 2 Uf) fun _=>zr.ite (fun f=>?_) fun f=>zr.ite (fun m=>?_) fun _=>E5 b.pay
 .subst f
  unfold kN at d;exact IE b.pay Uy
 .subst m
  unfold kN at d;have d:(qP p.funcs td).isSome=true:=Uy
  obtain⟨j,i⟩:=Option.isSome_iff_exists.1 d;cases hg:jT p td with
  |some g=>exact o g (hV hg) _ rfl b.pay
  |none=>
    exfalso;unfold jT at hg;rw[i]at hg
    have u:∀(l:List Fu) (k:Nat),qP l td=some k->k<l.length:=by
     intro l
     induction l with
     |nil=>intro k a;cases a
     |cons x r q=>
       intro k a;rw[qP]at a;split at a
       .injection a with a;subst a;exact Cd _
       .cases hr:qP r td with
        |none=>rw[hr]at a;cases a
        |some j=>rw[hr]at a;injection a with a;have a:j+1=k:=a;have:=q j hr;rw[D1];omega
    have:=u _ _ i;rw[show(some j).bind (fun k=>p.funcs[k]?)=p.funcs[j]? from rfl,List.getElem?_eq_none_iff]at hg;omega
theorem sE{f:Ex->RS->fR Int}(b:∀x s,zw s 0 (f x s)):∀(l:List Ex) (s:RS),s.fuel<=g->gP p s->(∀x∈l,∀s,s.fuel<=g->gP p s->zr p (f x s))->zr p (iZ f l s)
 |[],s,_,hs,_=>zr.ok hs
 | x::r,s,hf,hs,h=>by
   rw[iZ];refine(h x (Y4 ..) s hf hs).bind fun a t e c=>(sE b r t (by have:=((b x s).at e).1;omega) c fun j i=>h j (Y7 _ i)).bind fun q u _ d=>zr.ok d
def WO(p:Pr)(g:Nat):Prop:=∀(v:List Pa) (e:fG) (x:Ex) (s:RS),s.fuel<=g->gP p s->(qE p v x).2=0->zr p (f0 p g e x s)
def M7(p:Pr)(g:Nat):Prop:=∀(ft:Int) (st:St) (v:List Pa) (e:fG) (frm:Nat) (ti:Bool) (n:Nat) (s:RS) (m:Nat),s.fuel<=g->gP p s->uK st m=true->(yr p ft st v frm ti n).1=0->zr p (qn p g e st s)
theorem AF(b:M7 p g)(ft:Int):∀(l:List St) (v:List Pa) (e:fG) (frm:Nat) (ti:Bool) (n:Nat) (s:RS) (m:Nat),s.fuel<=g->gP p s->fL l m=true->(zX p ft l v frm ti n).1=0->zr p (kG (qn p g) e l s)
 |[],v,e,frm,ti,n,s,m,_,hs,_,_=>zr.ok hs
 | st::r,v,e,frm,ti,n,s,m,hg,hs,hok,hc=>by
   rw[ko,D2]at hok;obtain⟨d,n1,f⟩:=vu hc;rw[kG];exact(b ft st v e frm ti n s m hg hs hok.1 d).bind fun a t i c=>zr.ite (fun _=>AF b ft r _ _ frm ti n1 t m (by have:=((ks p g e st s).at i).1;omega) c hok.2 f) fun _=>zr.ok c
theorem xg(b:M7 p g)(ft:Int)(l:List St)(v:List Pa)(e:fG)(frm:Nat)(ti:Bool)(n:Nat)(s:RS)(m:Nat)(d:s.fuel<=g)(i:gP p s)(f:fL l m=true)(c:(zX p ft l v frm ti n).1=0):zr p (qG (qn p g) e l s):=by
 unfold qG;exact(AF b ft l v e frm ti n s m d i f c).bind fun a t _ j=>zr.ok j
theorem E6{b:fG->RS->fR Int}{B:fG->RS->fR xx}(f:∀e s,zw s 1 (b e s))(gB:∀e s,zw s 0 (B e s))(j:∀e s,s.fuel<=g->gP p s->zr p (b e s))(i:∀e s,s.fuel<=g->gP p s->zr p (B e s)):
 ∀(k:Nat) (e:fG) (s:RS),s.fuel<k->s.fuel<=g->gP p s->zr p (k4 b B k e s)
 |0,_,s,h,_,_=>absurd h (Nat.not_lt_zero _)
 | k+1,e,s,h,hg,hs=>by
   rw[k4];refine(j e s hg hs).bind fun a t m l=>zr.ite (fun _=>zr.ok l) fun _=>?_
   have o:=((f e s).at m).1;refine(i e t O l).bind fun c u n d=>zr.ite (fun _=>zr.ok d) fun _=>zr.ite (fun _=>zr.ok d) fun _=>?_
   have q:=((gB e t).at n).1;exact E6 f gB j i k _ u O O d
theorem wR(w:gK p)(c:WO p g)(y:M7 p g):WO p (g+1):=by
 intro v e x s _ F f;obtain⟨k,op,n,td,tc⟩:=x;obtain⟨C,_,_,G⟩:=ux f;have d:=uW G;rw[f0];refine(vw F).bind fun _ t j i=>?_
 have K:=(yy j).fuel;refine zr.ite (fun _=>?_) fun _=>?_
 .refine(c v e _ t O i (sC d 0)).bind fun a u B b=>zr.ite (fun _=>zr.ok b) fun _=>c v e _ u (by have:=((qu p g e _ t).at B).1;omega) b (sC d 1)
 .have r:=sE (p:=p) (g:=g) (fun x s=>(qu p g e x s).le (Dx _)) tc t O i fun x H s m o=>c v e x s m o (d x H)
  refine r.bind fun l u D b=>?_
  have L:=((mD (fun x s=>(qu p g e x s).le (Dx _)) tc t).at D).1;refine M6 b C fun q E z _ A=>?_
  obtain⟨I,J⟩:=w q E;exact(xg y q.type q.body q.params (fN q l) _ _ _ z 100 O A J I).bind fun a t _ f=>zr.ok f
theorem wS(q:WO p g)(r:M7 p g):M7 p (g+1):=by
 intro ft st v e frm ti n s m _ L d J;have H:∀vs l s,zw s 0 (qG (qn p g) vs l s):=fun vs l s=>xf (fun vs t s=>(ks p g vs t s).le (Dx _)) vs l s
 obtain⟨k,ty,td,tc,tg,th⟩:=st;obtain⟨c,⟨_,n1,B⟩,_,n2,K⟩:=sD J;rw[jn]at d;simp only[D2,decide_eq_true_eq]at d;have P:=CK d.1.1.1.2;rw[qn];refine(vw L).bind fun _ t y j=>?_
 have D:=(yy y).fuel;have Q:k≠1->jd k ty td v=v:=fun C=>by unfold jd;rw[Dp C]
 refine zr.ite (fun E=>?_) fun E=>zr.ite (fun _=>zr.ok j) fun F=>zr.ite (fun _=>zr.ok j) fun G=>?_
 .have i:=i3 c O O O
  exact E6 (g:=g) (fun e s=>qu p g e _ s) (fun e s=>H e tg s) (fun e s f o=>q v e _ s f o i.1) (fun e s f o=>xg r ft tg _ e _ _ _ s (m-1) f o d.1.2 B) _ e t (Nat.lt_succ_self _) O j
 have i:=i3 c O F G;refine(q v e _ t O j i.1).bind fun a u I b=>?_
 have f:=((qu p g e _ t).at I).1;refine zr.ite (fun _=>zr.ok b) fun y=>zr.ite (fun _=>zr.ok b) fun D=>zr.ite (fun z=>?_) fun _=>zr.ite (fun _=>zr.ite (fun _=>?_) fun _=>?_) fun _=>zr.ite (fun _=>zr.ok b) fun _=>zr.ite (fun _=>⟨b.len,b.sp,b.st⟩) fun _=>zr.ok b
 .refine(q v e _ u O b (i.2.1 z)).bind fun n w _ M=>(IF M.pay ?_).bind fun _ x _ N=>zr.ok N
  subst z;unfold jG at c;rw[Dp Uf,Dp Uf,Dq rfl]at c;by_cases A:(zZ p.wa td).isSome=true
  .exact A
  .rw[Dp A]at c;exact absurd c Uf
 .exact xg r ft tg _ e _ _ _ u (m-1) O b d.1.2 B
 .exact xg r ft th _ e _ _ _ u (m-1) O b d.2 K
theorem jV(p:Pr)(c:gK p):∀g,WO p g/\M7 p g
 |0=>⟨fun v e x s f a _=>by rw[f0];exact .inl ⟨rfl,a.st,by show s.fuel=0;omega⟩,fun ft st v e frm ti n s m f a _ _=>by rw[qn];exact .inl ⟨rfl,a.st,by show s.fuel=0;omega⟩⟩
 | g+1=>by
   obtain⟨b,d⟩:=jV p c g;exact⟨wR c b d,wS b d⟩
structure fF (X:Nat->Prop) (w w':C3):Prop where
 os:w'.os=w.os
 tape:w'.tape=w.tape
 output:w'.output=w.output
 size:w.heap.size<=w'.heap.size
 block:∀k,k<w.heap.size->¬X k->w'.heap[k]?=w.heap[k]?
section
variable {X Y:Nat->Prop} {w w' w2:C3}
theorem fF.refl(X:Nat->Prop)(w:C3):fF X w w:=⟨rfl,rfl,rfl,D0 _,fun _ _ _=>rfl⟩
theorem fF.trans(a:fF X w w')(g:fF Y w' w2)(d:∀k,k<w.heap.size->Y k->X k):fF X w w2:=
 ⟨g.os.trans a.os,g.tape.trans a.tape,g.output.trans a.output,Dz a.size g.size,fun k b c=>(g.block k (Yb b a.size) fun e=>c (d k b e)).trans (a.block k b c)⟩
theorem fF.mono(a:fF X w w')(c:∀k,k<w.heap.size->X k->Y k):fF Y w w':=⟨a.os,a.tape,a.output,a.size,fun k b e=>a.block k b fun d=>e (c k b d)⟩
theorem fF.wb(X:Nat->Prop)(a:Cx w w'):fF X w w':=⟨a.os,a.tape,a.output,a.size,fun k b _=>a.block k b⟩
theorem fF.below(a:fF X w w'){B:Nat}(c:B<=w.heap.size)(d:∀k,k<B->¬X k):Below B w w':=⟨a.os,a.tape,a.output,a.size,fun k b=>a.block k (Yb b c) (d k b)⟩
theorem fF.set(w:C3){g:Nat}(a:X g)(i:Nat)(u:C4):fF X w (w.setCell (g,i) u):=
 ⟨rfl,rfl,rfl,Uk,fun k _ b=>Dw w _ u k (fun e=>b (by have e:k=g:=e;rw[e];exact a))⟩
theorem fF.alloc(X:Nat->Prop)(w:C3)(o:Obj):fF X w (w.alloc o):=fF.wb X (Zb.alloc Zr o)
theorem fF.drew(X:Nat->Prop)(w:C3):fF X w w.drew:=fF.wb X Zb.drew
theorem fF.grown{b:Option Nat}(a:w.grownBy w' b)(d:∀k,b=some k->X k):fF X w w':=⟨a.os,a.tape,a.output,a.size,fun k c f=>a.block k c fun e=>f (d k e.symm)⟩
theorem fF.at{k:Nat}{o:Obj}(b:fF X w w')(c:¬X k)(a:w.heap[k]?=some o):w'.heap[k]?=some o:=(b.block k (Array.getElem?_eq_some_iff.1 a).1 c).trans a
end
def fM(L:Nat)(v v':C4):Prop:=v'.ownBlock=v.ownBlock\/∃g,v'.ownBlock=some g/\L<=g
theorem fM.refl(L:Nat)(v:C4):fM L v v:=.inl rfl
theorem fM.trans{d:Nat}{x:C4}(a:fM L u v)(g:fM d v x)(e:L<=d):fM L u x:=by
 rcases g with g|⟨k,b,c⟩
 .rcases a with a|⟨k,b,c⟩
  .exact .inl (g.trans a)
  .exact .inr ⟨k,g.trans b,c⟩
 .exact .inr ⟨k,b,Dz e c⟩
theorem fM.mono{a:Nat}(b:fM a u v)(c:L<=a):fM L u v:=(fM.refl L u).trans b c
theorem fM.not{k:Nat}(a:fM L u v)(_:k<L)(c:u.ownBlock≠some k):v.ownBlock≠some k:=by
 rcases a with a|⟨g,b,_⟩
 .rw[a];exact c
 .rw[b];intro e;injection e with e;omega
theorem fM.old{k:Nat}(b:fM L u v)(_:k<L)(a:v.ownBlock=some k):u.ownBlock=some k:=by
 rcases b with b|⟨g,c,_⟩
 .rw[<-b];exact a
 .rw[c]at a;injection a with a;omega
theorem fM.di{v':C4}(a:kj w v v')(d:L<=w.heap.size):fM L v v':=by
 rcases a with a|⟨g,b,c⟩
 .exact .inl a
 .exact .inr ⟨g,b,Dz d c⟩
theorem CL{B:Nat}{e:TypeId}{i m c:Nat}{j:Option Addr}{o:List C4}(q:w.ownsRow B e i (.slice j n c) n o)(a:m<=n):w.ownsRow B e i (.slice j m c) m (o.take (m*i)):=by
 obtain⟨r,s⟩:=q;refine⟨by rw[Yg,r];exact Ca (Nat.mul_le_mul_right _ a),?_⟩;rcases s with⟨f,l⟩|⟨g,_,p,f,l,t,u,v,x,y⟩
 .injection f with b k d
  subst b k d;exact .inl ⟨by rw[Nat.le_zero.1 a],Nat.le_zero.1 a⟩
 .injection f with b k d
  subst b d;refine .inr ⟨g,c,p,rfl,l,t,Dz a u,v,x,?_⟩;rw[<-y,List.take_take,Ca (Nat.mul_le_mul_right _ a)]
theorem IG{l:List UInt8}(h:xK l=true):l≠[]/\l.all ki=true/\kS 0 l<9223372036854775808:=by
 simp only[xK,D2,decide_eq_true_eq]at h;refine⟨fun e=>?_,h.1.1.2,h.2⟩;rw[e]at h;simp at h
theorem sF(s:C2)(w:C3)(_:s.size<=281474976710656)(f:xK s.data.toList=true):
 Cy 57 #[s] w (Cw ((kS 0 s.data.toList:Nat):Int) w):=by
 obtain⟨g,v,u⟩:=IG f;have z:0<s.size:=by rw[Yf];exact List.length_pos_iff.2 g
 have L:s.toList.isEmpty=false:=by rw[Ym];simpa using g
 have p:=U v;have r:=U f;have j:=U u;clear g v f u;go_enter func57,ntmps57;go_wp2
 go_loop [3,4,5] (fun n i _=>∃(k m:Nat),k<=s.size/\i=.int .i64 k/\n=.int .i64 m/\m=kS 0 (s.data.toList.take k)/\m<9223372036854775808) (fun _ i _=>s.size-(intOf i).toNat)
 case atStart=>exact⟨0,0,Dx _,rfl,rfl,by rw[Yx,g6],O⟩
 case round=>
  obtain⟨k,m,_,rfl,rfl,x,_⟩:=hrel;have d:=U x;clear x;by_cases b:k<s.size
  .obtain⟨c,a⟩:∃c:Int,(s[k].toNat:Int)=c:=⟨_,rfl⟩
   have D:=ui s k b c a;have l:=U a;have C:=QI b p.o;have B:48<=c:=O
   have J:c<=57:=O
   clear a C
   have y:¬(9223372036854775807-(c-48)) / 10<(m:Int):=fun y=>by
    have:=y0 s k m b d.o c l.o B y;rw[r.o]at this;cases this
   go_wp2;have G:=l.o;have F:((m*10+(s[k].toNat-48):Nat):Int)=(m:Int)*10+(c-48):=O
   have E:=l2 s.data.toList (k+1);rw[iU b,iR,<-d.o]at E;have K:=j.o;go_round
   case rel=>exact⟨k+1,m*10+(s[k].toNat-48),O,by go_num,by rw[F],by rw[iU b,iR,<-d.o],O⟩
   case measure=>simp[intOf];omega
  .have e:k=s.size:=by omega
   subst e
   have q:Do (m=kS 0 s.data.toList):=by
    unfold Do;rw[d.o,Ye (by rw[<-Yf];exact D0 _)]
   obtain⟨c,a⟩:∃c:Int,(s[0].toNat:Int)=c:=⟨_,rfl⟩
   have D:=o4 s z c a
   have t:(decide (s.size=1) || decide (c≠48))=true:=by
    rw[<-r.o,DX s z p.o j.o];congr 1;rw[Yk];simp;omega
   have A:=U t;clear a t;by_cases H:1<s.size
   .have I:c≠48:=by
     have:=A.o;rw[decide_eq_false (show ¬s.size=1 by omega),Bool.false_or]at this;exact of_decide_eq_true this
    go_wp2;exact Ig
   .go_wp2
    exact Ig
