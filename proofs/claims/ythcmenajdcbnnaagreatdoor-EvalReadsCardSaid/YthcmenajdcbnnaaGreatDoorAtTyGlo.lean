import Derived.Test.YthcmenajdcbnnaaGreatDoorAtTyLl
set_option linter.unusedSimpArgs false
set_option linter.unusedVariables false
set_option maxRecDepth 100000
set_option maxHeartbeats 99000000
/- The names of arrays and functions; where a run begins: package types. -/
namespace Go.Proofs.YthcmenajdcbnnaaGreatDoor
open Lib (hid)
open Go.RowKit
def Sized(p:Pr):Prop:=(∀a∈p.arrays,a.name.size<=maxLen)/\∀f∈p.funcs,f.name.size<=maxLen/\∀x∈f.params,x.name.size<=maxLen
theorem kd{s:ByteArray}:∀{l:List Fu},(jF l s).isSome=l.any fun f=>decide (f.name=s)
 | []=>rfl
 | f::r=>by
   rw[jF,List.any_cons];by_cases a:f.name=s
   .simp[a]
   .rw[if_neg a,Option.isSome_map,kd]
    simp[a]
theorem xd{s:ByteArray}:∀{l:List Ar},(zb l s).isSome=l.any fun f=>decide (f.name=s)
 | []=>rfl
 | f::r=>by
   rw[zb,List.any_cons];by_cases a:f.name=s
   .simp[a]
   .rw[if_neg a,Option.isSome_map,xd]
    simp[a]
theorem varT_some_iff{s:ByteArray}:∀{l:List Pa},(kI l s).isSome=l.any fun f=>decide (f.name=s)
 | []=>rfl
 | f::r=>by
   rw[kI,List.any_cons,<-varT_some_iff (l:=r)];cases kI r s with
   | some t=>simp
   | none=>
     by_cases a:f.name=s
     .simp[a]
     .simp[a]
theorem nod_params:∀l:List Pa,nod (l.map (·.name))= !dupP l
 | []=>rfl
 | x::r=>by
   rw[List.map_cons,nod,dupP,nod_params r,varT_some_iff,List.any_map,Bool.not_or];rfl
theorem nod_app:∀(a b:List ByteArray),nod (a++b)=(nod a && nod b && !(a.any fun s=>b.any fun x=>decide (x=s)))
 | [],b=>by simp[nod]
 | s::r,b=>by
   rw[List.cons_append,nod,nod,nod_app r b,List.any_append,List.any_cons];cases(r.any fun x=>decide (x=s)) <;> cases(b.any fun x=>decide (x=s)) <;> cases nod r <;> cases nod b <;> simp
theorem nod_funs:∀l:List Fu,nod (l.map (·.name))= !dupF l
 | []=>rfl
 | x::r=>by
   rw[List.map_cons,nod,dupF,nod_funs r,kd,List.any_map,Bool.not_or];rfl
theorem nod_arrs(p:Pr):∀l:List Ar,(nod (l.map (·.name)) && !((l.map (·.name)).any fun s=>(p.funcs.map (·.name)).any fun x=>decide (x=s)))= !dupA p l
 | []=>rfl
 | x::r=>by
   rw[List.map_cons,nod,dupA,List.any_cons,Bool.not_or,Bool.not_or,Bool.not_or,<-nod_arrs p r,xd,kd,List.any_map,List.any_map];simp only[Function.comp_def];cases(r.any fun f=>decide (f.name=x.name)) <;> cases(p.funcs.any fun f=>decide (f.name=x.name)) <;> simp
theorem nod_globals(p:Pr):nod (p.arrays.map (·.name)++p.funcs.map (·.name))= !(dupA p p.arrays || dupF p.funcs):=by
 rw[nod_app,nod_funs,Bool.not_or,<-nod_arrs p p.arrays];cases nod (p.arrays.map (·.name)) <;> cases dupF p.funcs <;> simp
theorem own_names{w:World}{k:Nat}{e:TypeId}{v:Value}{n:Nat}{l:List ByteArray}(a:w.ownsRow k e 1 v n (l.map Value.string))(F:n=l.length)(i:l.length<=281474976710656):SlN w.heap.size w v l:=by
 subst F;rcases a.2 with⟨rfl,y⟩|⟨g,p,q,rfl,z,c,A,B,C,h⟩
 .obtain rfl:l=[]:=List.eq_nil_of_length_eq_zero y
  exact⟨none,0,rfl,Nat.zero_le _,fun a=>absurd a Ia⟩
 .have E:g<w.heap.size:=(Array.getElem?_eq_some_iff.1 c).1
  refine⟨_,p,rfl,i,fun _=>⟨g,0,rfl,?_⟩⟩
  have D:∀j t,l[j]? =some t->w.cell? ⟨g,0+j,none⟩=some (.string t):=fun j t d=>by
   rw[Nat.zero_add,Lib.cell_of_heap c]
   have b:(q.toList.take (l.length*1))[j]? =some (Value.string t):=by
    rw[h,List.getElem?_map,d];rfl
   rw[List.getElem?_take]at b;split at b
   .simpa using b
   .cases b
  clear a z c A B C h i
  have x:∀(m:List ByteArray) (o:Nat),(∀j t,m[j]? =some t->w.cell? ⟨g,o+j,none⟩=some (.string t))->RdL 1 (fun(s:ByteArray) g o=>CellB w.heap.size w g o (.string s)) m g o:=by
   intro m
   induction m with
   | nil=>intro _ _;trivial
   | cons t r G=>
     intro o a
     exact⟨⟨E,a 0 t rfl⟩,G (o+1) fun j u d=>by
      rw[show o+1+j=o+(j+1)by omega]
      exact a (j+1) u Ir⟩
  exact x l 0 D
theorem strinfo:(Tryz.prog.info? 9).map (fun i=>(i.zero,i.size,i.bytes))=some (some (.string ⟨#[]⟩),1,16):=by kernel_rfl
theorem take_snoc{α β:Type}{f:α->β}{l:List α}{j:Nat}{x:α}(a:l[j]? =some x):(l.take (j+1)).map f=(l.take j).map f++[f x]:=by
 rw[List.take_add_one,a];simp
theorem yt(B:Nat)(p:Pr)(ab ad:Value)(w:World)(S:B<=w.heap.size)(D:SlA B w ab p.arrays)(E:SlF B w ad p.funcs)(ax:p.arrays.length<=1000000)(ay:p.funcs.length<=1000000):
 Calls Tryz.prog 64 #[.agg #[ab,ad]] w fun e w'=>∃v,e=.returned v/\SlN w'.heap.size w' v (p.arrays.map (·.name)++p.funcs.map (·.name))/\Below w.heap.size w w':=by
 obtain⟨ae,al,rfl,_⟩:=D.form;obtain⟨af,am,rfl,_⟩:=E.form;obtain⟨aa,U,X,Y,Z⟩:=info_parts strinfo;have d:=hid (And.intro U (And.intro X (And.intro Y Z)));have ag:=hid D;have ah:=hid E;clear D E U X Y Z;go_enter Tryz.func64,Tryz.ntmps64;go_wp2_with (fail)
 go_loopw [3,11] (fun H iv wr=>∃j:Nat,j<=p.arrays.length/\iv=.int .i64 j/\wr.ownsRow (w.heap.size+1) 9 1 H j (((p.arrays.take j).map (·.name)).map Value.string)/\wr.heap[w.heap.size]? =some (jT ae p.arrays.length al af p.funcs.length am)/\Below w.heap.size w wr/\w.heap.size+1<=wr.heap.size) (fun _ iv _=>p.arrays.length-(intOf iv).toNat)
 case atStart=>exact⟨0,Nat.zero_le _,rfl,World.ownsRow_nil _ _ _ _,heap_alloc_new _ _,Zb.alloc Zr _,Ic⟩
 case round=>
  obtain⟨j,ap,rfl,b,t,c,aq⟩:=hrel;obtain⟨u,C,rfl⟩:=vO b;obtain⟨⟨aC,aD⟩,aE⟩:=zO t;have ai:=hid b;have ak:=hid t;have M:=hid c;by_cases G:j<p.arrays.length
  .obtain⟨a,i⟩:∃e,p.arrays[j]? =some e:=⟨_,List.getElem?_eq_getElem G⟩
   obtain⟨g,o,rfl,an,ar,au⟩:=(ag.out.below (c.mono S) Zr).cells i;have ao:g<wr.heap.size:=I7
   have A:=hid i;have z:=hid (kD (kD b (.cells #[.string a.name,.int .i64 a.size] 80)) (.cells #[.string a.name] 9));have x:=hid (vj (wr.alloc (.cells #[.string a.name,.int .i64 a.size] 80)) [.string a.name] 9 (wr.heap.size+1) Ia);clear i b t c
   go_wp2_with (at_builtin;refine wpList_append_own _ rfl (.tmp 15) (.tmp 18) _ rfl (w.heap.size+1) 9 aa _ 1 16 Tryz.underlying59 d.out.1 d.out.2.1 d.out.2.2.1 d.out.2.2.2 rfl I7 (.slice u j C) j _ rfl (by exact z.out) ⟨wr.heap.size+1,0,none⟩ 1 1 [.string a.name] rfl rfl (by exact x.out) Ig If I7 I9 ?_
                intro av aw q m _;have l:=hid m;have y:=hid q
                clear q m)
   go_roundw
   case rel=>
    have r:∀k,(Value.slice u j C).ownBlock=some k->w.heap.size+1<=k:=fun k h=>(jU ai.out k h).1
    refine⟨j+1,I7,by go_num,?_,?_,((M.out.alloc I7 _).alloc I9 _).grown l.out I9 fun k h=>by have:=r k h;omega,?_⟩
    .rw[take_snoc A.out,List.map_append]
     exact y.out
    .exact(l.out.block _ I9 (fun e=>by have:=r _ e.symm;omega)).trans ((Below.heap_alloc _ _ _ I9).trans ((Below.heap_alloc _ _ _ I7).trans ak.out))
    .have:=l.out.size
     simp at this;omega
   case measure=>simp[intOf];omega
  .have F:j=p.arrays.length:=by omega
   subst F;have aj:=hid (show wr.ownsRow (w.heap.size+1) 9 1 (.slice u p.arrays.length C) p.arrays.length ((p.arrays.map (·.name)).map Value.string)by rw[List.take_of_length_le Zr]at b;exact b);clear b c t;go_wp2_with (fail)
   go_loopw [3,24] (fun H iv I=>∃j:Nat,j<=p.funcs.length/\iv=.int .i64 j/\I.ownsRow (w.heap.size+1) 9 1 H (p.arrays.length+j) ((p.arrays.map (·.name)++(p.funcs.take j).map (·.name)).map Value.string)/\Below w.heap.size w I/\w.heap.size+1<=I.heap.size) (fun _ iv _=>p.funcs.length-(intOf iv).toNat)
   case atStart=>exact⟨0,Nat.zero_le _,rfl,by simpa using aj.out,M.out,aq⟩
   case round=>
    obtain⟨j,ap,rfl,b,c,az⟩:=hrel;obtain⟨J,P,rfl⟩:=vO b;have O:=hid b;have N:=hid c;by_cases G:j<p.funcs.length
    .obtain⟨a,i⟩:∃e,p.funcs[j]? =some e:=⟨_,List.getElem?_eq_getElem G⟩
     obtain⟨g,o,aF,aG,rfl,an,ar,au,aA,aB,W,T⟩:=(ah.out.below (c.mono S) Zr).cells i;obtain⟨K,Q,rfl,_⟩:=W.form;obtain⟨L,R,rfl,_⟩:=T.form;have A:=hid i;have ao:g<wr.heap.size:=I7
     have z:=hid (kD (kD b (.cells #[.string a.name,.int .i64 a.type,.slice K a.params.length Q,.slice L a.body.length R] 93)) (.cells #[.string a.name] 9));have x:=hid (vj (wr.alloc (.cells #[.string a.name,.int .i64 a.type,.slice K a.params.length Q,.slice L a.body.length R] 93)) [.string a.name] 9 (wr.heap.size+1) Ia);clear i b c W T
     go_wp2_with (at_builtin;refine wpList_append_own _ rfl (.tmp 28) (.tmp 31) _ rfl (w.heap.size+1) 9 aa _ 1 16 Tryz.underlying59 d.out.1 d.out.2.1 d.out.2.2.1 d.out.2.2.2 rfl I7 (.slice J (p.arrays.length+j) P) (p.arrays.length+j) _ rfl (by exact z.out) ⟨wr.heap.size+1,0,none⟩ 1 1 [.string a.name] rfl rfl (by exact x.out) Ig If I7 I9 ?_
                  intro av aw q m _;have l:=hid m;have y:=hid q
                  clear q m)
     go_roundw
     case rel=>
      have r:∀k,(Value.slice J (p.arrays.length+j) P).ownBlock=some k->w.heap.size+1<=k:=fun k h=>(jU O.out k h).1
      refine⟨j+1,I7,by go_num,?_,((N.out.alloc I7 _).alloc I9 _).grown l.out I9 fun k h=>by have:=r k h;omega,?_⟩
      .rw[take_snoc A.out,<-List.append_assoc,List.map_append]
       exact y.out
      .have:=l.out.size
       simp at this;omega
     case measure=>simp[intOf];omega
    .have F:j=p.funcs.length:=by omega
     subst F;clear b c;go_wp2_with (fail);go_ret;refine⟨_,rfl,?_,N.out⟩;have V:=O.out;rw[List.take_of_length_le Zr]at V;exact own_names V Ia I9
theorem startable_any(B:Nat)(p:Pr)(r:Bool)(H I:Value)(w:World)(E:B<=w.heap.size)(v:SlA B w H p.arrays)(x:SlF B w I p.funcs)(G:uN p=r):
 Calls Tryz.prog 65 #[.agg #[H,I]] w fun e w'=>e=.returned (.bool r)/\Below w.heap.size w w':=by
 obtain⟨h,q,rfl,_⟩:=v.form;obtain⟨i,t,rfl,W⟩:=x.form;have z:=hid (v.below ((Below.refl B w).alloc E (jT h p.arrays.length q i p.funcs.length t)) Zr);have j:=hid (x.below ((Below.refl B w).alloc E (jT h p.arrays.length q i p.funcs.length t)) Zr);have D:=hid G;clear v x G;cases hk:jF p.funcs ⟨#[109,97,105,110]⟩with
 | none=>
   have l:=hid (show optI (jF p.funcs ⟨#[109,97,105,110]⟩)= -1 by rw[hk];rfl);have m:=hid (show uN p=false by unfold uN jH;rw[hk];rfl);clear hk;go_enter Tryz.func65,Tryz.ntmps65;go_wp2_with (go_at_call 87;(with_reducible refine(place_is B p _ _ l.out _ _ _ I9 z.out j.out).mono ?_);rintro e d ⟨rfl,a⟩);go_ret;exact⟨zC (by rw[<-D.out,m.out]),(Zb.alloc Zr _).trans (a.mono Ia)⟩
 | some k=>
   obtain⟨f,c,_,_⟩:=yq hk;have l:=hid (show optI (jF p.funcs ⟨#[109,97,105,110]⟩)=(k:Int)by rw[hk];rfl);have m:=hid (show uN p=(decide (f.type=1) && decide (f.params.length=0))by unfold uN jH;rw[hk,Option.bind_some,c]);have K:=hid c;have V:k<p.funcs.length:=(List.getElem?_eq_some_iff.1 c).1;clear hk c;have M:f.type=1/\f.params.length=0\/f.type=1/\f.params.length≠0\/f.type≠1:=I7
   rcases M with⟨b,u⟩|⟨b,u⟩|b
   all_goals
    have A:=hid b
    try have C:=hid u
    try clear u
    clear b;go_enter Tryz.func65,Tryz.ntmps65
    go_wp2_with (go_at_call 87;(with_reducible refine(place_is B p _ _ l.out _ _ _ I9 z.out j.out).mono ?_);rintro e d ⟨rfl,a⟩
                 have y:=(a.block w.heap.size Ia).trans (heap_alloc_new w (jT h p.arrays.length q i p.funcs.length t));obtain⟨⟨Y,Z⟩,aa⟩:=zO y;have X:w.heap.size<d.heap.size:=zB y;obtain⟨g,o,ab,ad,rfl,T,ae,N,O,af,F,L⟩:=(j.out.below (a.mono I9) Zr).cells K.out;obtain⟨P,Q,rfl,_⟩:=F.form;have U:g<d.heap.size:=I7
                 have J:=hid (show Below w.heap.size w d from(Zb.alloc Zr _).trans (a.mono Ia))
                 try rw[A.out]at N
                 try rw[C.out]at O
                 clear a y F L)
    all_goals go_ret
    all_goals refine⟨zC ?_,J.out⟩
    all_goals
     rw[<-D.out,m.out];have R:=A.out
     try have S:=C.out
     simp_all
abbrev fuO(s:ByteArray)(t:Int)(a b:Value):Obj:=.cells #[.string s,.int .i64 t,a,b] 93
theorem bdW{B:Nat}{a w:World}(b:Below B a w)(n:Nat):Below B a (w.drewN n):=b.trans ⟨rfl,rfl,rfl,Nat.le_refl _,fun _ _=>rfl⟩
theorem chkF_dup{p:Pr}{f:Fu}(a:dupP f.params=true):uV p f=(50,0):=by unfold uV;rw[if_pos a]
theorem chkF_list{p:Pr}{f:Fu}(a:dupP f.params=false){R:Int × Nat}(c:zf p f.type f.body f.params f.params.length false 0=R)(b:R.1≠0):uV p f=R:=by
 unfold uV;rw[if_neg Qm,c,if_pos b]
theorem chkF_end{p:Pr}{f:Fu}(a:dupP f.params=false){n:Nat}(b:zf p f.type f.body f.params f.params.length false 0=(0,n)):uV p f=if endSs f.body then(0,0)else(52,n):=by
 unfold uV;rw[if_neg Qm,b,if_neg (show ¬(0 :Int)≠0 by decide)]
theorem fu_params{p:Pr}{f:Fu}(b:prOK p=true)(c:f∈p.funcs):stsOK f.body 100=true/\f.params.length<=8:=by
 unfold prOK at b;rw[Bool.and_eq_true,List.all_eq_true,List.all_eq_true]at b;have a:=b.2 f c;unfold yF at a;simp only[Bool.and_eq_true,decide_eq_true_eq]at a;exact⟨a.2,a.1.1.2⟩
theorem function_any(B:Nat)(p:Pr)(f:Fu)(aa:prOK p=true)(aE:Sized p)(Z:f∈p.funcs)(bd be bf bg:Value)(w:World)(q:B<=w.heap.size)(ay:SlA B w bd p.arrays)(aB:SlF B w be p.funcs)(aD:SlP B w bf f.params)(az:SlS B w bg f.body)(r:Int × Nat)(a2:uV p f=r):
 Calls Tryz.prog 66 #[.agg #[bd,be],.agg #[.string f.name,.int .i64 f.type,bf,bg]] w fun e w'=>e=.returned (.tuple #[.int .i64 r.1,.int .i64 (W64 r.2)])/\Below w.heap.size w w':=by
 obtain⟨c,h,rfl,_⟩:=ay.form;obtain⟨d,i,rfl,_⟩:=aB.form;obtain⟨E,G,rfl,_⟩:=aD.form;obtain⟨F,H,rfl,_⟩:=az.form;obtain⟨bH,a0,a5,a6,a7⟩:=info_parts strinfo;have bP:=(fu_params aa Z).2;have W:=hid (And.intro a0 (And.intro a5 (And.intro a6 a7)));have aH:=hid ay;have aJ:=hid aB;have ao:=hid aD;have ai:=hid az;have ap:=hid a2;have X:=hid (fu_params aa Z).1;have aK:=hid (few_of aa);have bn:=hid (aE.2 f Z).2;have aW:Below w.heap.size w ((w.alloc (jT c p.arrays.length h d p.funcs.length i)).alloc (fuO f.name f.type (.slice E f.params.length G) (.slice F f.body.length H))):=(Zb.alloc Zr _).alloc Ia _;have bo:=hid aW;have aM:=hid (show((w.alloc (jT c p.arrays.length h d p.funcs.length i)).alloc (fuO f.name f.type (.slice E f.params.length G) (.slice F f.body.length H))).heap[w.heap.size]? =some (jT c p.arrays.length h d p.funcs.length i)from(Below.heap_alloc _ _ _ Ia).trans (heap_alloc_new w _));have aN:=hid (show((w.alloc (jT c p.arrays.length h d p.funcs.length i)).alloc (fuO f.name f.type (.slice E f.params.length G) (.slice F f.body.length H))).heap[w.heap.size+1]? =some (fuO f.name f.type (.slice E f.params.length G) (.slice F f.body.length H))from by simpa using heap_alloc_new (w.alloc (jT c p.arrays.length h d p.funcs.length i)) (fuO f.name f.type (.slice E f.params.length G) (.slice F f.body.length H)));clear ay aB aD az a2 a0 a5 a6 a7 aa aE Z aW
 go_enter Tryz.func66,Tryz.ntmps66;go_wp2_with (fail)
 go_loopw [6,14] (fun bI iv wr=>∃j:Nat,j<=f.params.length/\iv=.int .i64 j/\wr.ownsRow (w.heap.size+1+1) 9 1 bI j (((f.params.take j).map (·.name)).map Value.string)/\Below (w.heap.size+1+1) ((w.alloc (jT c p.arrays.length h d p.funcs.length i)).alloc (fuO f.name f.type (.slice E f.params.length G) (.slice F f.body.length H))) wr) (fun _ iv _=>f.params.length-(intOf iv).toNat)
 case atStart=>exact⟨0,Nat.zero_le _,rfl,World.ownsRow_nil _ _ _ _,Below.refl _ _⟩
 case round=>
  obtain⟨j,bS,rfl,K,A⟩:=hrel;have aE:w.heap.size+1+1<=wr.heap.size:=by have:=A.size;simpa using this
  have ad:Below w.heap.size w wr:=bo.out.trans (A.mono I7);obtain⟨ae,ax,rfl⟩:=vO K;obtain⟨⟨a8,a9⟩,ba⟩:=zO ((A.block w.heap.size I7).trans aM.out);obtain⟨⟨aS,f1,aT,f3⟩,aU⟩:=zR ((A.block (w.heap.size+1) I7).trans aN.out);have a3:w.heap.size<wr.heap.size:=I7
  have ab:w.heap.size+1<wr.heap.size:=I7
  have bk:=hid K;have bh:=hid A;have ar:=hid ad;by_cases bz:j<f.params.length
  .obtain⟨L,aF⟩:∃e,f.params[j]? =some e:=⟨_,List.getElem?_eq_getElem bz⟩
   obtain⟨g,o,rfl,bQ,bV,bW⟩:=(ao.out.below (ad.mono q) Zr).cells aF;have bR:g<wr.heap.size:=I7
   have bq:=hid aF;have bm:=hid (kD (kD K (.cells #[.string L.name,.int .i64 L.type] 100)) (.cells #[.string L.name] 9));have bj:=hid (vj (wr.alloc (.cells #[.string L.name,.int .i64 L.type] 100)) [.string L.name] 9 (wr.heap.size+1) Ia);clear aF K A ad
   go_wp2_with (at_builtin;refine wpList_append_own _ rfl (.tmp 18) (.tmp 21) _ rfl (w.heap.size+1+1) 9 bH _ 1 16 Tryz.underlying59 W.out.1 W.out.2.1 W.out.2.2.1 W.out.2.2.2 rfl I7 (.slice ae j ax) j _ rfl (by exact bm.out) ⟨wr.heap.size+1,0,none⟩ 1 1 [.string L.name] rfl rfl (by exact bj.out) Ig If I7 I9 ?_
                intro bX w6 a1 aZ _;have bi:=hid aZ;have bl:=hid a1
                clear a1 aZ)
   go_roundw
   case rel=>
    have bA:∀k,(Value.slice ae j ax).ownBlock=some k->w.heap.size+1+1<=k:=fun k aC=>(jU bk.out k aC).1
    refine⟨j+1,I7,by go_num,?_,((bh.out.alloc I7 _).alloc I9 _).grown bi.out I9 fun k aC=>bA k aC⟩;rw[take_snoc bq.out,List.map_append];exact bl.out
   case measure=>simp[intOf];omega
  .have bx:j=f.params.length:=by omega
   subst bx;have al:=hid (show SlN wr.heap.size wr (.slice ae f.params.length ax) (f.params.map (·.name))from own_names (by rw[List.take_of_length_le Zr]at K;exact K) Ia I9)
   have aw:=hid (show ∀s∈f.params.map (·.name),s.size<=maxLen from fun s bC=>by
    obtain⟨x,bG,rfl⟩:=List.mem_map.1 bC
    exact bn.out x bG)
   obtain⟨dp,aA⟩:∃b,dupP f.params=b:=⟨_,rfl⟩
   have aj:=hid aA;have am:=hid (show nod (f.params.map (·.name))= !dp by rw[nod_params,aA]);have aP:=hid ((A.block w.heap.size I7).trans aM.out);have Y:=hid ((A.block (w.heap.size+1) I7).trans aN.out);clear K A ad aA;cases dp
   case true=>
    go_wp2_with (go_at_call 63;(with_reducible refine(jm wr.heap.size _ _ _ _ Zr al.out aw.out am.out).mono ?_);rintro e a ⟨rfl,l⟩)
    go_ret2
    have m:=chkF_dup (p:=p) aj.out;rw[ap.out]at m;subst m;exact⟨rfl,ar.out.trans (l.mono I7)⟩
   case false=>
    obtain⟨⟨bw,n1⟩,aX⟩:∃R,zf p f.type f.body f.params f.params.length false 0=R:=⟨_,rfl⟩
    have V:=hid aX;obtain⟨bu,aV⟩:∃b,endSs f.body=b:=⟨_,rfl⟩
    have U:=hid aV;clear aX aV;by_cases aY:bw=0
    case neg=>
     go_wp2_with (go_at_call 63;(with_reducible refine(jm wr.heap.size _ _ _ _ Zr al.out aw.out am.out).mono ?_);rintro e a ⟨rfl,l⟩
                  obtain⟨⟨a8,a9⟩,ba⟩:=zO ((l.block w.heap.size a3).trans aP.out);obtain⟨⟨aS,f1,aT,f3⟩,aU⟩:=zR ((l.block (w.heap.size+1) ab).trans Y.out);have au:=hid ((l.block (w.heap.size+1) ab).trans Y.out);have S:w.heap.size+1<a.heap.size:=QS
                  have bD:w.heap.size<a.heap.size:=I7
                  have N:=hid (show Below w.heap.size w a from ar.out.trans (l.mono I7))
                  clear l)
     have T:Below a.heap.size a (a.alloc (ckO (.slice c p.arrays.length h) (.slice d p.funcs.length i) f.type 0)).drew:=(Zb.alloc Zr _).drew;have aq:=hid T;have ag:=hid (show(a.alloc (ckO (.slice c p.arrays.length h) (.slice d p.funcs.length i) f.type 0)).drew.heap[a.heap.size]? =some (ckO (.slice c p.arrays.length h) (.slice d p.funcs.length i) f.type (W64 0))from heap_alloc_new a _);have an:=hid (ao.out.below ((N.out.trans (T.mono I7)).mono q) Zr)
     go_region_held3 (fun w'=>w'.cell? ⟨w.heap.size+1,2,none⟩=some (.slice E f.params.length G)/\w'.cell? ⟨w.heap.size+1,3,none⟩=some (.slice F f.body.length H))
      (first
        | (go_split_ands;refine⟨?_,?_⟩ <;>(first|(rw[Q];assumption)|(rw[J];assumption)))
        | go_keep)
      (first
        | (go_at_call 89
           (refine(xl (a.alloc (ckO (.slice c p.arrays.length h) (.slice d p.funcs.length i) f.type 0)).drew (a.heap.size+1) (a.heap.size+1) B (.pointer none) (.pointer none) [] f.params _ It It (Fin.nil _ _) It (Seg.none _ _ _ _ Zr) an.out).mono ?_)
           rintro e w6 ⟨v',rfl,D,y⟩;obtain⟨aG,rfl⟩:=(D.fin (Fin.nil _ _)).form;have z:Below a.heap.size a w6:=aq.out.trans (y.mono It);have J:∀x,w6.cell? ⟨w.heap.size+1,x,none⟩=a.cell? ⟨w.heap.size+1,x,none⟩:=fun x=>z.cell (p:=⟨w.heap.size+1,x,none⟩) S
           have bF:a.heap.size+1<=w6.heap.size:=Nat.le_trans (Nat.le_of_eq (zA _ _).symm) y.size;have P:=(y.block a.heap.size Ue).trans ag.out;have ah:=hid P;have t:Below w.heap.size w w6:=N.out.trans (z.mono I7);have O:=hid t;have ak:=hid (show Env B (a.heap.size+1) p f.params (.slice c p.arrays.length h) (.slice d p.funcs.length i) (.pointer aG) w6 from⟨I7,I7,aH.out.below (t.mono q) Zr,aJ.out.below (t.mono q) Zr,Us⟩);have af:=hid (ai.out.below (t.mono q) Zr);have av:=hid ((z.block (w.heap.size+1) S).trans au.out)
           clear D y z P t)
        | (go_at_call 88
           (refine((list_all 100).call X.out aK.out V.out ak.out I7 I7 ah.out af.out).mono ?_)
           rintro e u ⟨rfl,C,I⟩;have Q:∀x,u.cell? ⟨w.heap.size+1,x,none⟩=w6.cell? ⟨w.heap.size+1,x,none⟩:=fun x=>C.cell I7 I7
           have J:∀x,u.cell? ⟨w.heap.size+1,x,none⟩=a.cell? ⟨w.heap.size+1,x,none⟩:=fun x=>(Q x).trans (J x)
           obtain⟨⟨br,bs,bt,aQ⟩,bv⟩:=zR I;have a4:a.heap.size<u.heap.size:=zB I;have v:=hid (show Below w.heap.size w u from O.out.trans (vy C O.out.size I7));have aO:=hid ((C.block (k:=w.heap.size+1) I7 I7).trans av.out)
           clear C I))
     go_wp2_with (fail)
     go_quiet (fail)
     go_wp2_with (fail)
     go_ret2
     have m:=chkF_list (p:=p) aj.out V.out aY;rw[ap.out]at m;subst m;exact⟨rfl,bdW v.out _⟩
    case pos=>
     subst aY
     go_wp2_with (go_at_call 63;(with_reducible refine(jm wr.heap.size _ _ _ _ Zr al.out aw.out am.out).mono ?_);rintro e a ⟨rfl,l⟩
                  obtain⟨⟨a8,a9⟩,ba⟩:=zO ((l.block w.heap.size a3).trans aP.out);obtain⟨⟨aS,f1,aT,f3⟩,aU⟩:=zR ((l.block (w.heap.size+1) ab).trans Y.out);have au:=hid ((l.block (w.heap.size+1) ab).trans Y.out);have S:w.heap.size+1<a.heap.size:=QS
                  have bD:w.heap.size<a.heap.size:=I7
                  have N:=hid (show Below w.heap.size w a from ar.out.trans (l.mono I7))
                  clear l)
     have T:Below a.heap.size a (a.alloc (ckO (.slice c p.arrays.length h) (.slice d p.funcs.length i) f.type 0)).drew:=(Zb.alloc Zr _).drew;have aq:=hid T;have ag:=hid (show(a.alloc (ckO (.slice c p.arrays.length h) (.slice d p.funcs.length i) f.type 0)).drew.heap[a.heap.size]? =some (ckO (.slice c p.arrays.length h) (.slice d p.funcs.length i) f.type (W64 0))from heap_alloc_new a _);have an:=hid (ao.out.below ((N.out.trans (T.mono I7)).mono q) Zr)
     go_region_held3 (fun w'=>w'.cell? ⟨w.heap.size+1,2,none⟩=some (.slice E f.params.length G)/\w'.cell? ⟨w.heap.size+1,3,none⟩=some (.slice F f.body.length H))
      (first
        | (go_split_ands;refine⟨?_,?_⟩ <;>(first|(rw[Q];assumption)|(rw[J];assumption)))
        | go_keep)
      (first
        | (go_at_call 89
           (refine(xl (a.alloc (ckO (.slice c p.arrays.length h) (.slice d p.funcs.length i) f.type 0)).drew (a.heap.size+1) (a.heap.size+1) B (.pointer none) (.pointer none) [] f.params _ It It (Fin.nil _ _) It (Seg.none _ _ _ _ Zr) an.out).mono ?_)
           rintro e w6 ⟨v',rfl,D,y⟩;obtain⟨aG,rfl⟩:=(D.fin (Fin.nil _ _)).form;have z:Below a.heap.size a w6:=aq.out.trans (y.mono It);have J:∀x,w6.cell? ⟨w.heap.size+1,x,none⟩=a.cell? ⟨w.heap.size+1,x,none⟩:=fun x=>z.cell (p:=⟨w.heap.size+1,x,none⟩) S
           have bF:a.heap.size+1<=w6.heap.size:=Nat.le_trans (Nat.le_of_eq (zA _ _).symm) y.size;have P:=(y.block a.heap.size Ue).trans ag.out;have ah:=hid P;have t:Below w.heap.size w w6:=N.out.trans (z.mono I7);have O:=hid t;have ak:=hid (show Env B (a.heap.size+1) p f.params (.slice c p.arrays.length h) (.slice d p.funcs.length i) (.pointer aG) w6 from⟨I7,I7,aH.out.below (t.mono q) Zr,aJ.out.below (t.mono q) Zr,Us⟩);have af:=hid (ai.out.below (t.mono q) Zr);have av:=hid ((z.block (w.heap.size+1) S).trans au.out)
           clear D y z P t)
        | (go_at_call 88
           (refine((list_all 100).call X.out aK.out V.out ak.out I7 I7 ah.out af.out).mono ?_)
           rintro e u ⟨rfl,C,I⟩;have Q:∀x,u.cell? ⟨w.heap.size+1,x,none⟩=w6.cell? ⟨w.heap.size+1,x,none⟩:=fun x=>C.cell I7 I7
           have J:∀x,u.cell? ⟨w.heap.size+1,x,none⟩=a.cell? ⟨w.heap.size+1,x,none⟩:=fun x=>(Q x).trans (J x)
           obtain⟨⟨br,bs,bt,aQ⟩,bv⟩:=zR I;have a4:a.heap.size<u.heap.size:=zB I;have v:=hid (show Below w.heap.size w u from O.out.trans (vy C O.out.size I7));have aO:=hid ((C.block (k:=w.heap.size+1) I7 I7).trans av.out)
           clear C I))
     obtain⟨⟨bK,bL,bM,bN⟩,bO⟩:=zR aO.out;have bT:w.heap.size+1<u.heap.size:=I7
     have aI:=hid (ai.out.below (v.out.mono q) Zr);have m:=chkF_end (p:=p) aj.out V.out;rw[ap.out]at m;have aL:=hid m;clear m;cases bu
     case true=>
      go_wp2_with (go_at_call 90;(with_reducible refine((ends_all 100).call X.out U.out (Nat.le_trans q v.out.size) aI.out).mono ?_);rintro e w8 ⟨rfl,M⟩)
      go_ret2
      have m:=aL.out;rw[U.out]at m;subst m;exact⟨rfl,v.out.trans (M.mono v.out.size)⟩
     case false=>
      go_wp2_with (go_at_call 90;(with_reducible refine((ends_all 100).call X.out U.out (Nat.le_trans q v.out.size) aI.out).mono ?_);rintro e w8 ⟨rfl,M⟩
                   have aR:w8.cell? ⟨a.heap.size,2+1,none⟩=some (.int .i64 (W64 n1)):=(M.cell (p:=⟨a.heap.size,3,none⟩) a4).trans aQ;have bJ:w8.cell? ⟨a.heap.size,3,none⟩=some (.int .i64 (W64 n1)):=aR;have bU:a.heap.size<w8.heap.size:=by have:=M.size;omega
                   have bp:=hid (show Below w.heap.size w w8 from v.out.trans (M.mono v.out.size))
                   clear M aR)
      go_quiet (fail)
      go_wp2_with (fail)
      go_ret2
      have m:=aL.out;rw[U.out]at m;subst m;exact⟨rfl,bdW bp.out _⟩
theorem typE_parts{p:Pr}{vars:List Pa}{k op n:Int}{name:ByteArray}{args:List Ex}(a:(qx p vars (.mk k op n name args)).2=0):yY p vars k name=true/\yl p k name args.length=true/\∃l,qU p vars args=.inr l:=by
 rw[qx]at a;by_cases b:yY p vars k name=false
 .rw[if_pos b]at a;exact absurd a II
 rw[if_neg b]at a;by_cases c:yl p k name args.length=false
 .rw[if_pos c]at a;exact absurd a (by show(51 :Int)≠0;decide)
 rw[if_neg c]at a;refine⟨Ih,Il,?_⟩;cases hr:qU p vars args with
 | inl x=>rw[hr]at a;exact absurd a (typEs_inl hr)
 | inr l=>exact⟨l,rfl⟩
theorem typEs_mem{p:Pr}{vars:List Pa}:∀{l:List Ex} {c:List Int},qU p vars l=.inr c->∀e∈l,(qx p vars e).2=0
 | [],_,_,e,a=>Ii
 | x::r,c,h,e,a=>by
   rw[qU]at h;by_cases b:(qx p vars x).2=0
   .rw[if_neg Ih]at h
    cases hr:qU p vars r with
    | inl d=>rw[hr]at h;cases h
    | inr l=>
      rcases List.mem_cons.1 a with rfl|a
      .exact b
      .exact typEs_mem hr e a
   .rw[if_pos b]at h;cases h
theorem typEs_getD{p:Pr}{vars:List Pa}{l:List Ex}(a:∀e∈l,(qx p vars e).2=0)(i:Nat):(qx p vars (l.getD i jz)).2=0:=by
 rw[List.getD_eq_getElem?_getD];cases hi:l[i]? with
 | none=>rfl
 | some e=>exact a e (List.mem_of_getElem? hi)
theorem kj{p:Pr}{vars:List Pa}{e:Ex}{t:Int}(a:kX p vars e t=0):(qx p vars e).2=0:=by
 unfold kX at a;by_cases b:(qx p vars e).2=0
 .exact b
 .rw[if_neg b]at a;exact a
theorem evKind{k q:Int}{name:ByteArray}{m o p:Nat}{l:Bool}(a:zr k q name m o p l=true):k=1\/k=2\/k=3\/k=4\/k=5\/k=6\/k=7\/k=8\/k=9\/k=10:=by
 unfold zr at a;by_cases b:k=1;· omega
 by_cases d:k=2;· omega
 by_cases e:k=3;· omega
 by_cases g:k=4;· omega
 by_cases h:k=5;· omega
 by_cases i:k=6\/k=7;· omega
 by_cases j:k=8\/k=9;· omega
 by_cases c:k=10;· omega
 rw[if_neg b,if_neg d,if_neg e,if_neg g,if_neg h,if_neg i,if_neg j,if_neg c]at a;cases a
theorem evL_len{f:Ex->RS->Res Int}:∀{l:List Ex} {s t:RS} {q:List Int},evL f l s=.ok q t->q.length=l.length
 | [],s,t,q,c=>by rw[evL]at c;injection c with c _;subst c;rfl
 | e::r,s,t,q,c=>by
   rw[evL]at c;cases hx:f e s with
   | fin u=>rw[hx]at c;cases c
   | ok a u=>
     rw[hx]at c;have c:(evL f r u).bind (fun l s=>Res.ok (a::l) s)=.ok q t:=c;cases hy:evL f r u with
     | fin v=>rw[hy]at c;cases c
     | ok b v=>
       rw[hy]at c;injection c with c _;rw[<-c,List.length_cons,List.length_cons,evL_len hy]
def AllR(p:Pr):Prop:=∀f∈p.funcs,(zf p f.type f.body f.params f.params.length false 0).1=0/\stsOK f.body 100=true
theorem uq{p:Pr}{s:ByteArray}{f:Fu}(a:jH p s=some f):f∈p.funcs:=by
 unfold jH at a;cases hk:jF p.funcs s with
 | none=>rw[hk]at a;cases a
 | some k=>rw[hk]at a;exact List.mem_of_getElem? a
theorem chkS_parts{p:Pr}{ft k a:Int}{name:ByteArray}{args:List Ex}{thn els:List St}{v:List Pa}{frm n:Nat}{loop:Bool}(b:(vL p ft (.mk k a name args thn els) v frm loop n).1=0):
 kw p ft k a name args v frm loop=0/\(∃e n1,(zf p ft thn (j8 k a name v) (j8 k a name v).length e n1).1=0)/\∃g n2,(zf p ft els (j8 k a name v) (j8 k a name v).length g n2).1=0:=by
 rw[vL]at b;by_cases c:kw p ft k a name args v frm loop=0
 .rw[if_neg Il]at b
  by_cases d:(zf p ft thn (j8 k a name v) (j8 k a name v).length (loop || decide (k=5)) (n+1)).1=0
  .rw[if_neg Ir]at b
   exact⟨c,⟨_,_,d⟩,_,_,b⟩
  .rw[if_pos d]at b;exact absurd b d
 .rw[if_pos c]at b;exact absurd b c
theorem ur{p:Pr}{ft:Int}{st:St}{r:List St}{v:List Pa}{frm n:Nat}{loop:Bool}(a:(zf p ft (st::r) v frm loop n).1=0):
 (vL p ft st v frm loop n).1=0/\∃n1,(zf p ft r (letS st v) frm loop n1).1=0:=by
 rw[zf]at a;by_cases b:(vL p ft st v frm loop n).1=0
 .rw[if_neg Ih]at a;exact⟨b,_,a⟩
 .rw[if_pos b]at a;exact absurd a b
theorem own_arg{p:Pr}{ft k l:Int}{name:ByteArray}{args:List Ex}{v:List Pa}{frm:Nat}{loop:Bool}(a:kw p ft k l name args v frm loop=0)(r:1<=k/\k<=10)(o:k≠6)(q:k≠7):
 (qx p v (args.getD 0 jz)).2=0/\(k=3->(qx p v (args.getD 1 jz)).2=0)/\(k=2->∃t,kI v name=some t):=by
 unfold kw at a;by_cases c:k=1
 .rw[if_pos c]at a
  by_cases b:kX p v (args.getD 0 jz) l=0
  .exact⟨kj b,fun _=>I7,fun _=>I7⟩
  .rw[if_neg b]at a;exact absurd a b
 rw[if_neg c]at a;by_cases d:k=2
 .rw[if_pos d]at a
  cases hv:kI v name with
  | none=>rw[hv]at a;exact absurd a II
  | some t=>rw[hv]at a;exact⟨kj a,fun _=>I7,fun _=>⟨t,rfl⟩⟩
 rw[if_neg d]at a;by_cases e:k=3
 .rw[if_pos e]at a
  by_cases j:(zb p.arrays name).isSome=true
  .rw[if_pos j]at a
   by_cases b:kX p v (args.getD 0 jz) 1=0
   .rw[if_pos b]at a
    exact⟨kj b,fun _=>kj a,fun _=>I7⟩
   .rw[if_neg b]at a;exact absurd a b
  .rw[if_neg j]at a;exact absurd a I8
 rw[if_neg e]at a;by_cases g:k=4\/k=5
 .rw[if_pos g]at a;exact⟨kj a,fun _=>I7,fun _=>I7⟩
 rw[if_neg g]at a;by_cases h:k=8
 .rw[if_pos h]at a;exact⟨kj a,fun _=>I7,fun _=>I7⟩
 rw[if_neg h]at a;by_cases i:k=9
 .rw[if_pos i]at a;exact⟨kj a,fun _=>I7,fun _=>I7⟩
 rw[if_neg i]at a;by_cases m:k=10
 .rw[if_pos m]at a;exact⟨a,fun _=>I7,fun _=>I7⟩
 omega
structure Shp (p:Pr) (s:RS):Prop where
 len:s.arr.length=p.arrays.length
 sp:s.spent=false
 st:s.stat=0
theorem Shp.pay{p:Pr}{s:RS}(a:Shp p s):Shp p (zT s):=⟨a.len,a.sp,a.st⟩
def zo{α:Type}(p:Pr):Res α->Prop
 | .ok _ t=>Shp p t
 | .fin t=>(t.spent=true/\t.stat=0/\t.fuel=0)\/(t.spent=false/\2<=t.stat/\t.stat<=4)
theorem zo.ok{α:Type}{p:Pr}{a:α}{s:RS}(b:Shp p s):zo p (.ok a s):=b
theorem zo.end{α:Type}{p:Pr}{s:RS}(b:Shp p s)(k:Int)(a:2<=k/\k<=4):zo p (.fin (jq s k):Res α):=.inr ⟨b.sp,a.1,a.2⟩
theorem zo.bind{α β:Type}{p:Pr}{x:Res α}{f:α->RS->Res β}(b:zo p x)(c:∀a t,x=.ok a t->Shp p t->zo p (f a t)):zo p (x.bind f):=by
 cases x with
 | fin t=>exact b
 | ok a t=>exact c a t rfl b
theorem zo.ite{α:Type}{p:Pr}{c:Prop}[Decidable c]{x b:Res α}(d:c->zo p x)(e:¬c->zo p b):zo p (if c then x else b):=by
 by_cases a:c
 .rw[if_pos a];exact d a
 .rw[if_neg a];exact e a
theorem yu{p:Pr}{s:RS}(a:Shp p s):zo p (qI s):=by
 obtain⟨arr,c,out,b,fuel,e,d⟩:=s;cases fuel with
 | zero=>exact .inl ⟨rfl,a.st,rfl⟩
 | succ f=>exact⟨a.len,a.sp,a.st⟩
theorem idxA_arr{p:Pr}{name:ByteArray}{s:RS}(c:Shp p s){k:Nat}(a:zb p.arrays name=some k):∃l,s.arr[k]? =some l:=by
 have b:k<p.arrays.length:=by
  have e:∀(l:List Ar) (k:Nat),zb l name=some k->k<l.length:=by
   intro l
   induction l with
   | nil=>intro k a;cases a
   | cons x r d=>
     intro k a;rw[zb]at a;split at a
     .injection a with a;subst a;exact Nat.succ_pos _
     .cases hr:zb r name with
      | none=>rw[hr]at a;cases a
      | some j=>rw[hr]at a;injection a with a;have a:j+1=k:=a;have:=d j hr;rw[List.length_cons];omega
  exact e _ _ a
 exact⟨_,List.getElem?_eq_getElem (by rw[c.len];exact b)⟩
theorem evIdx_fine{p:Pr}{name:ByteArray}{i:Int}{s:RS}(a:Shp p s)(c:(zb p.arrays name).isSome=true):zo p (ym p name i s):=by
 obtain⟨k,b⟩:=Option.isSome_iff_exists.1 c;obtain⟨l,d⟩:=idxA_arr a b;unfold ym;rw[b];dsimp only;rw[d];exact zo.ite (fun _=>zo.ok a) fun _=>zo.end a 3 I8
theorem evPut_fine{p:Pr}{name:ByteArray}{i n:Int}{s:RS}(a:Shp p s)(c:(zb p.arrays name).isSome=true):zo p (kY p name i n s):=by
 obtain⟨k,b⟩:=Option.isSome_iff_exists.1 c;obtain⟨l,d⟩:=idxA_arr a b;unfold kY;rw[b];dsimp only;rw[d];exact zo.ite (fun _=>⟨by show(s.arr.set _ _).length=_;rw[List.length_set];exact a.len,a.sp,a.st⟩) fun _=>zo.end a 3 I8
theorem evRead_fine{p:Pr}{s:RS}(a:Shp p s):zo p (xR s):=by
 unfold xR;split
 .exact zo.end a 4 I8
 .exact⟨a.len,a.sp,a.st⟩
theorem node_fine{p:Pr}{v:List Pa}{c:Fu->List Int->RS->Res Int}{k op n:Int}{name:ByteArray}{l:List Int}{e:Vals}{s:RS}(b:Shp p s)(d:yY p v k name=true)(o:∀g∈p.funcs,∀t,t.fuel=s.fuel->Shp p t->zo p (c g l t)):zo p (zw p c e k op n name l s):=by
 unfold zw;refine zo.ite (fun _=>zo.ok b) fun w=>zo.ite (fun _=>zo.ok b) fun y=>zo.ite (fun _=>zo.ok b.pay) fun z=>zo.ite (fun _=>zo.ite (fun _=>zo.ok b.pay) fun _=>zo.end b.pay 2 I8) fun A=>zo.ite (fun h=>?_) fun h=>zo.ite (fun m=>?_) fun _=>evRead_fine b.pay
 .subst h
  unfold yY at d;exact evIdx_fine b.pay Ir
 .subst m
  unfold yY at d;have d:(jF p.funcs name).isSome=true:=Ir
  obtain⟨j,i⟩:=Option.isSome_iff_exists.1 d;cases hg:jH p name with
  | some g=>exact o g (uq hg) _ rfl b.pay
  | none=>
    exfalso;unfold jH at hg;rw[i]at hg
    have u:∀(l:List Fu) (k:Nat),jF l name=some k->k<l.length:=by
     intro l
     induction l with
     | nil=>intro k a;cases a
     | cons x r q=>
       intro k a;rw[jF]at a;split at a
       .injection a with a;subst a;exact Nat.succ_pos _
       .cases hr:jF r name with
        | none=>rw[hr]at a;cases a
        | some j=>rw[hr]at a;injection a with a;have a:j+1=k:=a;have:=q j hr;rw[List.length_cons];omega
    have:=u _ _ i;rw[show(some j).bind (fun k=>p.funcs[k]?)=p.funcs[j]? from rfl,List.getElem?_eq_none_iff]at hg;omega
theorem evL_fine{p:Pr}{f:Ex->RS->Res Int}{g:Nat}(b:∀x s,Goes s 0 (f x s)):∀(l:List Ex) (s:RS),s.fuel<=g->Shp p s->(∀x∈l,∀s,s.fuel<=g->Shp p s->zo p (f x s))->zo p (evL f l s)
 | [],s,_,hs,_=>zo.ok hs
 | x::r,s,hf,hs,h=>by
   rw[evL];refine(h x (List.mem_cons_self ..) s hf hs).bind fun a t e c=>(evL_fine b r t (by have:=((b x s).at e).1;omega) c fun j i=>h j (List.mem_cons_of_mem _ i)).bind fun q u _ d=>zo.ok d
def FinE(p:Pr)(g:Nat):Prop:=∀(v:List Pa) (e:Vals) (x:Ex) (s:RS),s.fuel<=g->Shp p s->(qx p v x).2=0->zo p (yA p g e x s)
def FinS(p:Pr)(g:Nat):Prop:=∀(ft:Int) (st:St) (v:List Pa) (e:Vals) (frm:Nat) (loop:Bool) (n:Nat) (s:RS) (m:Nat),s.fuel<=g->Shp p s->stOK st m=true->(vL p ft st v frm loop n).1=0->zo p (j9 p g e st s)
theorem evLs_fine{p:Pr}{g:Nat}(b:FinS p g)(ft:Int):∀(l:List St) (v:List Pa) (e:Vals) (frm:Nat) (loop:Bool) (n:Nat) (s:RS) (m:Nat),s.fuel<=g->Shp p s->stsOK l m=true->(zf p ft l v frm loop n).1=0->zo p (kx (j9 p g) e l s)
 | [],v,e,frm,loop,n,s,m,_,hs,_,_=>zo.ok hs
 | st::r,v,e,frm,loop,n,s,m,hg,hs,hok,hc=>by
   rw[jy,Bool.and_eq_true]at hok;obtain⟨d,n1,h⟩:=ur hc;rw[kx];exact(b ft st v e frm loop n s m hg hs hok.1 d).bind fun a t i c=>zo.ite (fun _=>evLs_fine b ft r _ _ frm loop n1 t m (by have:=((qr p g e st s).at i).1;omega) c hok.2 h) fun _=>zo.ok c
theorem yP{p:Pr}{g:Nat}(b:FinS p g)(ft:Int)(l:List St)(v:List Pa)(e:Vals)(frm:Nat)(loop:Bool)(n:Nat)(s:RS)(m:Nat)(d:s.fuel<=g)(i:Shp p s)(h:stsOK l m=true)(c:(zf p ft l v frm loop n).1=0):zo p (qw (j9 p g) e l s):=by
 unfold qw;exact(evLs_fine b ft l v e frm loop n s m d i h c).bind fun a t _ j=>zo.ok j
theorem evW_fine{p:Pr}{g:Nat}{b:Vals->RS->Res Int}{B:Vals->RS->Res yL}(i:∀e s,Goes s 1 (b e s))(gB:∀e s,Goes s 0 (B e s))(l:∀e s,s.fuel<=g->Shp p s->zo p (b e s))(j:∀e s,s.fuel<=g->Shp p s->zo p (B e s)):
 ∀(k:Nat) (e:Vals) (s:RS),s.fuel<k->s.fuel<=g->Shp p s->zo p (evW b B k e s)
 | 0,_,s,h,_,_=>absurd h (Nat.not_lt_zero _)
 | k+1,e,s,h,hg,hs=>by
   rw[evW];refine(l e s hg hs).bind fun a t o m=>zo.ite (fun _=>zo.ok m) fun _=>?_
   have r:=((i e s).at o).1;refine(j e t I7 m).bind fun c u q d=>zo.ite (fun _=>zo.ok d) fun _=>zo.ite (fun _=>zo.ok d) fun _=>?_
   have v:=((gB e t).at q).1;exact evW_fine i gB l j k _ u I7 I7 d
theorem evE_fine_step{p:Pr}(w:AllR p){g:Nat}(c:FinE p g)(y:FinS p g):FinE p (g+1):=by
 intro v e x s N F h;obtain⟨k,op,n,name,args⟩:=x;obtain⟨C,M,P,G⟩:=typE_parts h;have d:=typEs_mem G;rw[yA];refine(yu F).bind fun _ t j i=>?_
 have K:=(yM j).fuel;refine zo.ite (fun _=>?_) fun _=>?_
 .refine(c v e _ t I7 i (typEs_getD d 0)).bind fun a u B b=>zo.ite (fun _=>zo.ok b) fun _=>c v e _ u (by have:=((qD p g e _ t).at B).1;omega) b (typEs_getD d 1)
 .have r:=evL_fine (p:=p) (g:=g) (fun x s=>(qD p g e x s).le (Nat.zero_le _)) args t I7 i fun x H s m o=>c v e x s m o (d x H)
  refine r.bind fun l u D b=>?_
  have L:=((evL_goes (fun x s=>(qD p g e x s).le (Nat.zero_le _)) args t).at D).1;refine node_fine b C fun q E z O A=>?_
  obtain⟨I,J⟩:=w q E;exact(yP y q.type q.body q.params (evPar q l) _ _ _ z 100 I7 A J I).bind fun a t _ h=>zo.ok h
theorem evS_fine_step{p:Pr}{g:Nat}(q:FinE p g)(r:FinS p g):FinS p (g+1):=by
 intro ft st v e frm loop n s m P L d J;have H:∀vs l s,Goes s 0 (qw (j9 p g) vs l s):=fun vs l s=>kJ (fun vs t s=>(qr p g vs t s).le (Nat.zero_le _)) vs l s
 obtain⟨k,O,name,args,thn,els⟩:=st;obtain⟨c,⟨S,n1,B⟩,T,n2,K⟩:=chkS_parts J;rw[kH]at d;simp only[Bool.and_eq_true,decide_eq_true_eq]at d;have Q:=evKind d.1.1.1.2;rw[j9];refine(yu L).bind fun _ t y j=>?_
 have D:=(yM y).fuel;have R:k≠1->j8 k O name v=v:=fun C=>by unfold j8;rw[if_neg C]
 refine zo.ite (fun E=>?_) fun E=>zo.ite (fun _=>zo.ok j) fun F=>zo.ite (fun _=>zo.ok j) fun G=>?_
 .have i:=own_arg c I7 I7 I7
  exact evW_fine (g:=g) (fun e s=>qD p g e _ s) (fun e s=>H e thn s) (fun e s h o=>q v e _ s h o i.1) (fun e s h o=>yP r ft thn _ e _ _ _ s (m-1) h o d.1.2 B) _ e t (Nat.lt_succ_self _) I7 j
 have i:=own_arg c I7 F G;refine(q v e _ t I7 j i.1).bind fun a u I b=>?_
 have h:=((qD p g e _ t).at I).1;refine zo.ite (fun _=>zo.ok b) fun y=>zo.ite (fun _=>zo.ok b) fun D=>zo.ite (fun z=>?_) fun _=>zo.ite (fun _=>zo.ite (fun _=>?_) fun _=>?_) fun _=>zo.ite (fun _=>zo.ok b) fun _=>zo.ite (fun _=>⟨b.len,b.sp,b.st⟩) fun _=>zo.ok b
 .refine(q v e _ u I7 b (i.2.1 z)).bind fun n w _ M=>(evPut_fine M.pay ?_).bind fun _ x _ N=>zo.ok N
  subst z;unfold kw at c;rw[if_neg I8,if_neg I8,if_pos rfl]at c;by_cases A:(zb p.arrays name).isSome=true
  .exact A
  .rw[if_neg A]at c;exact absurd c I8
 .exact yP r ft thn _ e _ _ _ u (m-1) I7 b d.1.2 B
 .exact yP r ft els _ e _ _ _ u (m-1) I7 b d.2 K
theorem kM(p:Pr)(c:AllR p):∀g,FinE p g/\FinS p g
 | 0=>⟨fun v e x s h a _=>by rw[yA];exact .inl ⟨rfl,a.st,by show s.fuel=0;omega⟩,fun ft st v e frm loop n s m h a _ _=>by rw[j9];exact .inl ⟨rfl,a.st,by show s.fuel=0;omega⟩⟩
 | g+1=>by
   obtain⟨b,d⟩:=kM p c g;exact⟨evE_fine_step c b d,evS_fine_step b d⟩
end Go.Proofs.YthcmenajdcbnnaaGreatDoor
