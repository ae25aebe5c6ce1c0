import Derived.Test.YthcmenajdcbnnaaGreatDoorAlTyRk
set_option linter.unusedSimpArgs false
set_option linter.unusedVariables false
set_option maxRecDepth 100000
set_option maxHeartbeats 99000000
namespace Go.Proofs.YthcmenajdcbnnaaGreatDoor
open Go.RowKit Tryz
theorem Qk{p:Prop}(h:p:=by
 simp only[D2,decide_eq_true_eq]at a;rw[vV a.1.1.2];simp only[Dr,D1,D5]
 omega):p:=h
theorem Ql{p:Prop}(h:p:=by
 obtain⟨_,_,_,a⟩:=qe a;injection a with a _;rw[<-a,k7,fU]
 omega):p:=h
variable{op n a x:Int}{s:C3}{l b q:List Int}{d k ln B j:Nat}{p:Pr}{f fu:Fu}{r:List fH}{w:C4}{v:C5}{τ:Nat->Lb}{G:Gm}{m:Vm}
def yo:List Ex->Nat
 |[]=>0
 |e::r=>(yg e).length+yo r
theorem t2:∀(l:List Ex),yo l<=(yB ((g1 l).map (·.2.2))).length
 |[]=>D0 _
 |[x]=>by rw[g1,g1];show(yg x).length+0<=(yg x).length;omega
 | x::y::r=>by
   have h:=t2 (y::r);have e:yB ((g1 (x::y::r)).map (·.2.2))=yg x++44::32::yB ((g1 (y::r)).map (·.2.2)):=rfl;rw[e,yo,Dr,D1,D1];omega
theorem oX(lev:Int)(c:Int×Int×List UInt8):c.2.2.length<=(wV lev c).length:=by
 unfold wV;split
 .simp
  omega
 .exact D0 _
theorem TL(_:20<=op)(_:op<=22):1<=(xP op).data.toList.length:=by
 have:op=20\/op=21\/op=22:=O
 rcases this with rfl|rfl|rfl<;>decide
theorem OK(n:Int)(_:0<=n):1<=(Lib.itoa n).length:=by
 obtain⟨u,rfl⟩:∃u:Nat,n=(u:Int):=⟨n.toNat,O⟩
 unfold Lib.itoa;rw[Dp O];rw[Lib.decDigits];split
 .exact D0 _
 .rw[Dr,D8]
  omega
theorem X7(a:us s=true):1<=s.data.toList.length:=by
 unfold us xI at a;simp only[D2]at a;have b:=a.1.1.1.1;cases hs:s.data.toList with
 |nil=>rw[hs]at b;cases b
 |cons x r=>rw[D1];omega
mutual
theorem TM:∀(e:Ex) (m:Nat),xx e m=true->zy e<=2*(yg e).length
 | .mk k op n td tc,m,h=>by
   rw[kD,D2,D2]at h;have i:=oY tc (m-1) h.2;have c:=h.1.2;rw[zy,yg];unfold zl at c;unfold QP;by_cases j:k=1
   .rw[Dq j]at c ⊢
    simp only[D2,decide_eq_true_eq]at c;have:tc=[]:=List.length_eq_zero_iff.1 c.2;subst this;have:=OK n c.1.1.1;rw[zH];omega
   rw[Dp j]at c ⊢;by_cases l:k=2
   .rw[Dq l]at c ⊢
    simp only[D2,decide_eq_true_eq]at c;have:tc=[]:=List.length_eq_zero_iff.1 c.2;subst this;rw[zH];unfold ZN;split
    .show 0+2<=2*4;omega
    .show 0+2<=2*5;omega
   rw[Dp l]at c ⊢;by_cases o:k=3
   .rw[Dq o]at c ⊢
    simp only[D2,decide_eq_true_eq]at c;have:tc=[]:=List.length_eq_zero_iff.1 c.2;subst this;have:=X7 c.1.1.1;rw[zH];omega
   rw[Dp o]at c ⊢;by_cases p:k=4
   .rw[Dq p]at c ⊢
    simp only[D2,decide_eq_true_eq]at c;obtain⟨a,rfl⟩:=List.length_eq_one_iff.1 c.2;have e:ME (g1 [a]) 0=(a.kind,a.op,yg a):=rfl;rw[yo,yo]at i;split
    .rw[e]
     simp only[Dr,D1];omega
    .rename_i t
     have f:=TL c.1.1.1.1 O;have d:=oX 11 (ME (g1 [a]) 0);rw[e]at d;rw[e,Dr];have d:(yg a).length<=(wV 11 (a.kind,a.op,yg a)).length:=d;omega
   rw[Dp p]at c ⊢;by_cases f:k=5
   .rw[Dq f]at c ⊢
    simp only[D2,decide_eq_true_eq]at c
    obtain⟨a,b,rfl⟩:∃a b,tc=[a,b]:=by
     match tc,c.2 with
     |[a,b],_=>exact⟨a,b,rfl⟩
    have r:ME (g1 [a,b]) 0=(a.kind,a.op,yg a):=rfl;have s:ME (g1 [a,b]) 1=(b.kind,b.op,yg b):=rfl;rw[yo,yo,yo]at i;have d:(yg a).length<=(wV (kG op) (a.kind,a.op,yg a)).length:=oX (kG op) (a.kind,a.op,yg a);have g:(yg b).length<=(wV (kG op+1) (b.kind,b.op,yg b)).length:=oX (kG op+1) (b.kind,b.op,yg b);rw[r,s];simp only[Dr,D1];omega
   rw[Dp f]at c ⊢;by_cases d:k=6
   .rw[Dq d]at c ⊢
    simp only[D2,decide_eq_true_eq]at c;obtain⟨a,rfl⟩:=List.length_eq_one_iff.1 c.2;have e:ME (g1 [a]) 0=(a.kind,a.op,yg a):=rfl;rw[yo,yo]at i;rw[e];simp only[Dr,D1];omega
   rw[Dp d]at c ⊢;by_cases g:k=7
   .rw[Dq g]
    have:=t2 tc;simp only[Dr,D1];omega
   rw[Dp g]at c ⊢;by_cases q:k=8
   .rw[Dq q]at c
    simp only[D2,decide_eq_true_eq]at c;have:tc=[]:=List.length_eq_zero_iff.1 c.2;subst this;rw[zH];show 0+2<=2*6;omega
   .rw[Dp q]at c
    cases c
theorem oY:∀(l:List Ex) (m:Nat),zx l m=true->zH l<=2*yo l
 |[],_,_=>D0 _
 | e::r,m,h=>by
   rw[qr,D2]at h;have a:=TM e m h.1;have b:=oY r m h.2;rw[zH,yo];omega
end
theorem vV{tc:List Ex}(h:tc.length=1):yo tc=(k0 tc 0).length:=by
 obtain⟨a,rfl⟩:=List.length_eq_one_iff.1 h;show(yg a).length+0=(yg a).length;omega
theorem OL{tc:List Ex}(h:tc.length=2):yo tc=(k0 tc 0).length+(k0 tc 1).length:=by
 match tc,h with
 |[a,b],_=>
   show(yg a).length+((yg b).length+0)=(yg a).length+(yg b).length;omega
theorem JL{l:List St}{f:Nat->Nat}{n:Nat}(_:f d<=n)(_:f (d+1)<=n):lB l f d<=n+2:=by
 unfold lB;split<;>omega
theorem OM{k g:Int}{td:C3}{tc:List Ex}{b c:Nat}{q:Bool}(a:zn k g td tc.length b c q=true)(o:¬k=6)(p:¬k=7):yo tc+1<=(yC k g td tc).length/\(k=4\/k=5->yo tc+6<=(yC k g td tc).length):=by
 unfold zn at a;unfold yC;by_cases i:k=1
 .rw[Dq i]at a ⊢
  exact Qk
 rw[Dp i]at a ⊢;by_cases l:k=2
 .rw[Dq l]at a ⊢
  exact Qk
 rw[Dp l]at a ⊢;by_cases m:k=3
 .rw[Dq m]at a ⊢
  simp only[D2,decide_eq_true_eq]at a;rw[OL a.1.1.2];simp only[Dr,D1,D5];omega
 rw[Dp m]at a ⊢;by_cases n:k=4
 .rw[Dq n]at a ⊢
  simp only[D2,decide_eq_true_eq]at a;rw[vV a.2];simp only[Dr,D1,D5];omega
 rw[Dp n]at a ⊢;by_cases e:k=5
 .rw[Dq e]at a ⊢
  simp only[D2,decide_eq_true_eq]at a;rw[vV a.1.2];simp only[Dr,D1,D5];omega
 rw[Dp e,Dp O]at a;rw[Dp e,Dp o,Dp p];by_cases d:k=8
 .rw[Dq (Or.inl d)]at a
  rw[Dq d];exact Qk
 by_cases f:k=9
 .rw[Dq (Or.inr f)]at a
  rw[Dp d,Dq f];exact Qk
 rw[Dp O]at a;rw[Dp d,Dp f];by_cases j:k=10
 .rw[Dq j]at a
  simp only[D2,decide_eq_true_eq]at a;rw[vV a.1.1.1.2];simp only[Dr,D1,D5];omega
 .rw[Dp j]at a
  cases a
mutual
theorem TN:∀(t:St) (m d a:Nat),uP t m=true->d+m<=101->xc t d<=104*(P7 t a).length
 | .mk k ty td tc tg th,m,d,a,h,hd=>by
   rw[jp]at h;simp only[D2,decide_eq_true_eq]at h;have y:=oY tc 100 h.1.1.2;have q:=xl tg (m-1) d (a+1) h.1.2 O;have r:=xl tg (m-1) (d+1) (a+1) h.1.2 O;have s:=xl tg (m-1) 0 (a+1) h.1.2 O;have u:=xl tg (m-1) 1 (a+1) h.1.2 O;have o:=xl th (m-1) d (a+1) h.2 O;have p:=xl th (m-1) (d+1) (a+1) h.2 O;have v:lB tg (fJ tg) d<=104*(xQ tg (a+1)).length+2:=JL q r;have w:lB tg (fJ tg) 0<=104*(xQ tg (a+1)).length+2:=JL s u;have x:lB th (fJ th) d<=104*(xQ th (a+1)).length+2:=JL o p;rw[xc,P7];by_cases f:k=6
   .rw[Dp O,Dp O,Dq (Or.inl f)]
    subst f;have e:(yC 6 ty td tc).length=6:=rfl;simp only[Dr,D1];omega
   by_cases g:k=7
   .rw[Dp O,Dp O,Dq (Or.inr g)]
    subst g;have e:(yC 7 ty td tc).length=9:=rfl;simp only[Dr,D1];omega
   have j:=OM h.1.1.1.2 f g;by_cases b:k=4
   .rw[Dq b,Dq b]
    have l:=j.2 (Or.inl b);by_cases i:th.length=0
    .have n:th=[]:=List.length_eq_zero_iff.1 i
     have z:lB th (fJ th) d=0:=by rw[n];rfl
     rw[Dq i];simp only[Dr,D1,D5];omega
    .rw[Dp i]
     simp only[Dr,D1,D5];omega
   rw[Dp b,Dp b];by_cases c:k=5
   .rw[Dq c,Dq c]
    have l:=j.2 (Or.inr c);simp only[Dr,D1,D5];omega
   rw[Dp c,Dp c,Dp O];simp only[Dr,D1,D5];omega
theorem xl:∀(l:List St) (m d a:Nat),fL l m=true->d+m<=101->fJ l d<=104*(xQ l a).length
 |[],_,_,_,_,_=>Dx _
 | t::r,m,d,a,h,hd=>by
   rw[ks,D2]at h;have b:=TN t m d a h.1 hd;have c:=xl r m d a h.2 hd;rw[fJ,xQ,Dr];omega
end
theorem X8(d:f∈p.funcs):(xQ f.body 1).length<=(KN p).length:=by
 have e:(xQ f.body 1).length<=(V9 f).length:=by
  unfold V9;simp only[Dr,D1];omega
 have g:(V9 f).length<=((p.funcs.map V9).flatten).length:=by
  obtain⟨a,b,c⟩:=List.append_of_mem d;rw[c];simp only[Yj,Y5,List.flatten_append,List.flatten_cons,Dr];omega
 unfold KN;rw[Dr];omega
theorem TO(b:f5 p=true)(c:f∈p.funcs):fJ f.body 0<=104*(KN p).length:=by
 unfold f5 at b;rw[D2]at b;have a:=List.all_eq_true.1 b.2 f c;unfold yj at a;simp only[D2]at a;have d:=xl f.body 100 0 1 a.2 O;have e:=X8 c;omega
structure t3 (p:Pr):Prop where
 ok:f5 p=true
 sz:KY p
 n1:p.wa.length<=1000000
 n2:p.funcs.length<=1000000
 cn:∀f∈p.funcs,f.params.length+fU f.body<=1000000000
 ln:∀f∈p.funcs,fJ f.body 0<=1000000000
theorem qe{α β:Type}{x:PR α}{f:α->List fH->PR β}{b:β}(d:x.bind f=.ok b r):∃a c,x=.ok a c/\f a c=.ok b r:=by
 cases x with
 |ok a c=>exact⟨a,c,rfl,d⟩
 |bad c=>cases d
 |deep c=>cases d
 |o=>cases d
theorem ke{α:Type}{l:List fH}{x:PR α}{a:α}(h:zm k l x)(e:x=.ok a r):qC r/\r.length+k<=l.length:=by
 subst e;exact h.2
theorem oZ{α:Type}{x:PR α}{a:α}(e:vK x=.ok a r):∃d,x=.ok a d:=by
 obtain⟨b,d,f,g⟩:=qe e;obtain⟨_,_,_,c⟩:=qe g;injection c with c _;exact⟨d,c▸f⟩
theorem X9{n:Nat}{l:List fH}{s:St}(h:q7 n l=.ok s r):k7 s=1:=by
 unfold q7 at h;obtain⟨_,_,_,h⟩:=qe h;split at h
 .obtain⟨_,_,_,h⟩:=qe h
  injection h with h _;rw[<-h,k7,fU]
 .split at h
  .obtain⟨_,_,_,h⟩:=qe h
   obtain⟨_,_,_,h⟩:=qe h;obtain⟨_,_,_,h⟩:=qe h;obtain⟨_,_,_,h⟩:=qe h;injection h with h _;rw[<-h,k7,fU]
  .obtain⟨_,_,_,h⟩:=qe h
   obtain⟨_,_,_,h⟩:=qe h;injection h with h _;rw[<-h,k7,fU]
theorem LM:∀(a b:List St),fU (a++b)=fU a+fU b
 |[],b=>by rw[Cn,fU];omega
 |s::r,b=>by rw[Yv,fU,fU,LM r b];omega
theorem GQ:∀n:Nat,(∀d l s r,qC l->pS n d l=.ok s r->k7 s+r.length<=l.length)/\(∀d e t l s r,qC l->q8 n d e t l=.ok s r->k7 s+r.length<=l.length+1+fU t)/\(∀d l b r,qC l->pB n d l=.ok b r->fU b+r.length<=l.length)/\(∀d tk l b r,qC l->nR n d tk l=.ok b r->fU b+r.length<=l.length+fU tk)
 |0=>⟨fun d l s r _ a=>(by rw[pS]at a;cases a),fun d e t l s r _ a=>(by rw[q8]at a;cases a),fun d l b r _ a=>(by rw[pB]at a;cases a),fun d tk l b r _ a=>(by rw[nR]at a;cases a)⟩
 | n+1=>by
   obtain⟨z,y,q,u⟩:=GQ n;refine⟨fun d l s r c a=>?_,fun d e t l s r c a=>?_,fun d l b r c a=>?_,fun d tk l b r c a=>?_⟩
   .have B:=(ke (rA (n:=n+1) (d:=d) c) a).2
    rw[pS]at a;split at a
    .cases a
    split at a
    .obtain⟨g,a⟩:=oZ a
     obtain⟨_,_,_,a⟩:=qe a;obtain⟨_,_,_,a⟩:=qe a;obtain⟨_,_,_,a⟩:=qe a;exact Ql
    split at a
    .rename_i k
     obtain⟨e,g,f,a⟩:=qe a;obtain⟨t,A,m,a⟩:=qe a;have j:=zJ.sign c k;obtain⟨o,x⟩:=ke (yq j.2.1) f;have v:=q _ _ _ _ o m;have w:=(ke (iX o) m).1;have:=y _ _ _ _ _ _ w a;have:=j.2.2;omega
    split at a
    .rename_i k
     obtain⟨e,g,f,a⟩:=qe a;obtain⟨t,A,m,a⟩:=qe a;have j:=zJ.sign c k;obtain⟨o,x⟩:=ke (yq j.2.1) f;have v:=q _ _ _ _ o m;injection a with a i;have:=j.2.2;rw[<-a,<-i,k7,fU];omega
    split at a
    .obtain⟨g,a⟩:=oZ a
     injection a with a _;rw[<-a,k7,fU];omega
    split at a
    .obtain⟨g,a⟩:=oZ a
     injection a with a _;rw[<-a,k7,fU];omega
    split at a
    .obtain⟨g,a⟩:=oZ a
     exact Ql
    split at a
    .obtain⟨g,a⟩:=oZ a
     exact Ql
    .obtain⟨g,a⟩:=oZ a
     have:=X9 a;omega
   .rw[q8]at a
    split at a
    .rename_i k
     obtain⟨D,g,f,a⟩:=qe a;have j:=zJ.sign c k;have:=q _ _ _ _ j.2.1 f;have:=j.2.2;injection a with a i;rw[<-a,<-i,k7];omega
    .injection a with a i
     rw[<-a,<-i,k7,fU];omega
   .rw[pB]at a
    obtain⟨_,g,f,a⟩:=qe a;obtain⟨p,C⟩:=ke (zM c _) f;have:=u _ _ _ _ _ p a;rw[fU]at this;omega
   .rw[nR]at a
    split at a
    .rename_i k
     have j:=(zJ.sign c k).2.2;injection a with a i;rw[<-a,<-i];omega
    .obtain⟨s,g,f,a⟩:=qe a
     have m:=z _ _ _ _ c f;have p:=(ke (rA c) f).1;have i:=u _ _ _ _ _ p a;rw[LM,fU,fU]at i;omega
theorem GR:∀(n:Nat) (tk:List Pa) (l:List fH) (ps:List Pa) (r:List fH),qC l->p2 n tk l=.ok ps r->ps.length+r.length<=l.length+tk.length
 |0,tk,l,ps,r,_,a=>by rw[p2]at a;cases a
 | n+1,tk,l,ps,r,hl,a=>by
   rw[p2]at a;obtain⟨t,p,e,a⟩:=qe a;obtain⟨i,k⟩:=ke (xr hl) e;obtain⟨s,q,f,a⟩:=qe a;obtain⟨c,m⟩:=ke (jJ i 1 Uf) f;split at a
   .rename_i j
    have d:=zJ.sign c j;have b:=GR n _ _ _ _ d.2.1 a;have:=d.2.2;rw[Dr,D8]at b;omega
   .obtain⟨_,u,b,a⟩:=qe a
    obtain⟨_,o⟩:=ke (zM c _) b;injection a with a g;rw[<-a,<-g,Dr,D8];omega
theorem zas{n:Nat}{t:Int}{l:List fH}(g:qC l)(c:pC n t s l=.ok f r):f.params.length+fU f.body+r.length<=l.length:=by
 unfold pC at c;obtain⟨ps,o,a,c⟩:=qe c;have k:=(ke (r1 g) a).1;obtain⟨b,p,i,c⟩:=qe c;have q:=(GQ n).2.2.1 _ _ _ _ k i
 have u:ps.length+o.length<=l.length:=by
  unfold WC at a;obtain⟨_,w,d,a⟩:=qe a;obtain⟨e,v⟩:=ke (zM g _) d;split at a
  .rename_i m
   have:=(zJ.sign e m).2.2;injection a with a j;rw[<-a,<-j,D5];omega
  .have:=GR _ _ _ _ _ e a
   rw[D5]at this;omega
 injection c with c d;rw[<-c,<-d];show ps.length+fU b+p.length<=l.length;omega
def k8:List Fu->Nat
 |[]=>0
 |f::r=>1+f.params.length+fU f.body+k8 r
theorem GS:∀(a b:List Fu),k8 (a++b)=k8 a+k8 b
 |[],b=>by rw[Cn,k8];omega
 |s::r,b=>by rw[Yv,k8,k8,GS r b];omega
theorem GT:∀l:List Fu,l.length<=k8 l
 |[]=>Dx _
 |f::r=>by have:=GT r;rw[k8,D1];omega
theorem GU:∀{l:List Fu}{f:Fu},f∈l->f.params.length+fU f.body<=k8 l
 | g::r,f,h=>by
   rw[k8];rcases List.mem_cons.1 h with rfl|h
   .omega
   .have:=GU h;omega
theorem t4:∀(n:Nat) (p:Pr) (l:List fH) (q:Pr) (r:List fH),qC l->k4 n p l=.ok q r->q.wa.length+k8 q.funcs+r.length<=l.length+p.wa.length+k8 p.funcs
 |0,p,l,q,r,_,b=>by rw[k4]at b;cases b
 | n+1,p,l,q,r,hl,b=>by
   rw[k4]at b;split at b
   .injection b with b e
    rw[<-b,<-e];omega
   .obtain⟨t,z,e,b⟩:=qe b
    obtain⟨m,w⟩:=ke (xr hl) e;obtain⟨s,A,k,b⟩:=qe b;obtain⟨g,x⟩:=ke (jJ m 1 Uf) k;split at b
    .rename_i o
     have j:=zJ.sign g o.2.2;obtain⟨a,u,d,b⟩:=qe b;obtain⟨i,y⟩:=ke (z6 j.2.1) d;have c:=t4 n _ _ _ _ i b;have:=j.2.2;dsimp only at c;rw[Dr,D8]at c;omega
    .obtain⟨f,u,d,b⟩:=qe b
     have v:=zas g d;have i:=(ke (hP g) d).1;have c:=t4 n _ _ _ _ i b;dsimp only at c;rw[GS,k8,k8]at c;omega
theorem vW(a:us s=true):s.size<=maxLen:=by
 unfold us xI at a;simp only[D2,decide_eq_true_eq]at a;have b:s.size<=20:=by simpa using a.1.1.1.2
 unfold maxLen;omega
theorem TP(c:f5 p=true):KY p:=by
 unfold f5 at c;rw[D2]at c;refine⟨fun a e=>?_,fun f g=>?_⟩
 .have b:=List.all_eq_true.1 c.1 a e
  unfold yi at b;rw[D2]at b;exact vW b.1
 .have b:=List.all_eq_true.1 c.2 f g
  unfold yj at b;simp only[D2]at b;refine⟨vW b.1.1.1.1,fun x i=>?_⟩;have d:=List.all_eq_true.1 b.1.2 x i;unfold ut at d;rw[D2]at d;exact vW d.1
theorem TQ(a:yQ s=(p,0,ln)):s.size<=100000/\∃c r,qF s.data.toList 1=(c,none)/\kX c=.ok p r/\f5 p=true:=by
 by_cases f:100000<s.size
 .rw[oV f]at a
  simp at a
 .cases hn:(qF s.data.toList 1).2 with
  |some l=>
    rw[DN O hn]at a;simp at a
  |none=>
    have b:=oW hn;rw[iN O b]at a;unfold JK at a;cases hp:kX (qF s.data.toList 1).1 with
    |ok q r=>
      rw[hp]at a;dsimp only at a;split at a
      .rename_i d
       have e:q=p:=congrArg Prod.fst a;subst e;exact⟨O,_,r,b,hp,d⟩
      .simp at a
    |bad r=>rw[hp]at a;simp at a
    |deep r=>rw[hp]at a;simp at a
    |o=>
      have x:=y6 (kK _ _ _ _ Zr b);rw[hp]at x;exact x.elim
theorem ON{k:Int}(a:yQ s=(p,k,ln))(c:k≠0):p=JJ:=by
 by_cases d:100000<s.size
 .rw[oV d]at a
  exact(congrArg Prod.fst a).symm
 .cases hn:(qF s.data.toList 1).2 with
  |some l=>
    rw[DN O hn]at a;exact(congrArg Prod.fst a).symm
  |none=>
    have b:=oW hn;rw[iN O b]at a;unfold JK at a;cases hp:kX (qF s.data.toList 1).1 with
    |ok q r=>
      rw[hp]at a;dsimp only at a;split at a
      .exact absurd (congrArg (fun x=>x.2.1) a).symm c
      .exact(congrArg Prod.fst a).symm
    |bad r=>rw[hp]at a;exact(congrArg Prod.fst a).symm
    |deep r=>rw[hp]at a;exact(congrArg Prod.fst a).symm
    |o=>rw[hp]at a;exact(congrArg Prod.fst a).symm
theorem OO(g:yQ s=(p,0,ln)):t3 p:=by
 obtain⟨_,_,r,b,e,c⟩:=TQ g;have i:=kK _ _ _ _ Zr b;have l:=(uj _ _ _ _ Zr b).2;have o:s.data.toList.length=s.size:=Uh
 have a:=t4 _ _ _ _ _ i e;rw[k8]at a;have n:([]:List Ar).length=0:=rfl;have m:=GT p.funcs;refine⟨c,TP c,?_,?_,fun f d=>?_,fun f d=>?_⟩
 .simp at a;omega
 .simp at a;omega
 .have:=GU d;simp at a;omega
 .have j:=TO c d
  have k:=JI b e;omega
theorem TR{a:C4}(h:Below B a w)(n:Nat):Below B a (w.drewN n):=h.trans ⟨rfl,rfl,rfl,D0 _,fun _ _=>rfl⟩
theorem OP{a:List Int}{c:Int}(d:a.take k=b.take k)(f:a[k]?=some x)(g:b[k]?=some c)(e:x=c):a.take (k+1)=b.take (k+1):=by
 rw[Yt,Yt,d,f,g,e]
theorem TS{a:List Int}{d:Int}(c:a[k]?=some x)(g:b[k]?=some d)(e:x≠d):decide (a=b)=false:=by
 refine decide_eq_false fun f=>e ?_
 rw[f,g]at c;injection c with c;exact c.symm
theorem TT{a:List Int}(d:a.length=b.length)(c:a.take a.length=b.take a.length):decide (a=b)=true:=by
 rw[Ck,d,Ck]at c;exact decide_eq_true c
theorem TU(B:Nat)(a b:List Int)(C D:C5)(z:Bool)(y:decide (a=b)=z)(w:C4)(_:B<=w.heap.size)(n:rF B w C a)(p:rF B w D b):
 Cz 30 #[C,D] w (Cw z w):=by
 obtain⟨_,c,rfl,_⟩:=n.form;obtain⟨_,_,rfl,_⟩:=p.form;have E:=U n;have F:=U p;have l:=U y;clear n p y;go_enter func30,ntmps30;by_cases i:a.length=b.length
 .have j:=U i
  have L:((a.length:Int) != (b.length:Int))=false:=by simp[i]
  clear i;go_wp2_with fail
  go_loopw [5] (fun iv wr=>∃k m:Nat,k<=a.length/\iv=.int .i64 (k:Int)/\a.take k=b.take k/\wr=w.drewN m) (fun iv _=>a.length-(intOf iv).toNat)
  case atStart=>exact⟨0,0,Dx _,rfl,rfl,rfl⟩
  case round=>
   obtain⟨k,m,_,rfl,v,rfl⟩:=hrel;have s:=U v;clear v;by_cases M:k<a.length
   .obtain⟨x,q⟩:∃e,a[k]?=some e:=⟨_,Dz M⟩
    obtain⟨f,r⟩:∃e,b[k]?=some e:=⟨_,Dz (by have:=j.o;omega)⟩
    obtain⟨g,o,rfl,_,_⟩:=E.o.cells q;obtain⟨G,_,rfl,_,_⟩:=F.o.cells r;have Q:k<b.length:=by have:=j.o;omega
    have N:g<w.heap.size:=O
    have P:G<w.heap.size:=O
    have t:=U q;have u:=U r;clear q r;by_cases d:x=f
    .have I:(x == f)=true:=by simp[d]
     have J:(x != f)=false:=by simp[d]
     go_wp2_with fail
     go_quiet (fail)
     go_wp2_with fail;go_roundw
     case rel=>exact⟨k+1,_,O,by go_num,OP s.o t.o u.o d,rfl⟩
     case measure=>simp[intOf];omega
    .have I:(x == f)=false:=by simp[d]
     have J:(x != f)=true:=by simp[d]
     go_wp2_with fail
     go_quiet (fail)
     go_wp2_with fail;go_ret;exact⟨zC (by rw[<-l.o,TS t.o u.o d]),TR (TR Zb _) _⟩
   .have K:k=a.length:=by omega
    subst K;go_wp2_with fail;go_ret;exact⟨zC (by rw[<-l.o,TT j.o s.o]),TR Zb _⟩
 .have L:((a.length:Int) != (b.length:Int))=true:=by simp;omega
  go_wp2_with fail;go_ret;exact⟨zC (by rw[<-l.o,decide_eq_false (fun H=>i (by rw[H]))]),D4 _ _⟩
theorem nC{e:TypeId}{j n:Nat}{k:List C5}(i:w.ownsRow B e j v n k):∀b m c,v=.slice b m c->m<=c:=by
 rintro b m c rfl;rcases i.2 with⟨a,_⟩|⟨g,_,_,a,_,_,_,_⟩
 .injection a with _ d f
  omega
 .injection a with _ d f
  omega
def GV(B:Nat)(w:C4)(v:C5)(r:Int×Int×List Int×Nat×Nat):Prop:=
 ∃vo,v=.agg #[(r.1:Int),(r.2.1:Int),vo,((r.2.2.2.1:Int):Int),((r.2.2.2.2:Int):Int)]/\rF B w vo r.2.2.1/\∀A n c,vo=.slice A n c->n<=c
theorem GV.below{a:Nat}{w':C4}{r:Int×Int×List Int×Nat×Nat}(b:GV B w v r)(g:Below B w w')(f:B<=a):GV a w' v r:=by
 obtain⟨vo,c,d,e⟩:=b;exact⟨vo,c,d.below g f,e⟩
end Go.Proofs.YthcmenajdcbnnaaGreatDoor
namespace Go.Proofs.YthcmenajdcbnnaaGreatDoor
open Go.RowKit Tryz Go.Maps
variable{op n a x:Int}{s:C3}{l b q:List Int}{d k ln B j:Nat}{p:Pr}{f fu:Fu}{r:List fH}{w:C4}{v:C5}{τ:Nat->Lb}{G:Gm}{m:Vm}
theorem BN:∀(vs:fG) (x:C3×Int) (s:C3),jc (vs++[x]) s=if x.1=s then some vs.length else jc vs s
 | [],x,s=>by
   show(match jc [] s with|some k=>some (k+1)|none=>if x.1=s then some 0 else none)=_;rfl
 | y::r,x,s=>by
   rw[Yv,jc,BN r x s];by_cases h:x.1=s
   .simp only[Dq h]
    rfl
   .simp only[Dp h]
    rfl
theorem yR{vs:fG}(h:jc vs s=some k):k<vs.length:=DD h
theorem GW(vs:fG)(tm:List Nat)(b:tm.length=vs.length)(x:C3×Int)(l:Nat)(s:C3):gE (vs++[x]) (tm++[l]) s=NY (gE vs tm) x.1 (.pointer (some ⟨l,0,none⟩)) s:=by
 unfold gE NY;rw[BN];by_cases a:x.1=s
 .rw[Dq a,Dq a.symm]
  dsimp only;rw[<-b,Yi Zr,Yy];rfl
 .rw[Dp a,Dp (fun e=>a e.symm)]
  dsimp only;cases he:jc vs s with
  |none=>rfl
  |some k=>
    dsimp only;rw[Yo (by have:=yR he;omega)]
theorem TV{vs:fG}{tm:List Nat}{n:Nat}(s:C3)(_:n<=vs.length):gE (vs.take n) (tm.take n) s=gE (vs.take n) tm s:=by
 unfold gE;cases he:jc (vs.take n) s with
 |none=>rfl
 |some k=>
   have a:=yR he;rw[Yg]at a;dsimp only;rw[Y8,Dq O]
section
variable {G:Gm} {τ τ':Nat->Lb} {w w':C4}{m:Vm}{vi vv pa vo:C5}
theorem gD.relab(a:gD G τ w m vi vv pa vo)(e:Cy w w')(c:gP τ τ' w):gD G τ' w' m vi vv pa vo:=by
 have b:fF (fun k=>XN (τ k)) w w':=fF.wb _ e;have f:=e.mono a.hB;exact(a.step (X:=XN) (m':=m) b c id ⟨id,id⟩ ((e.block _ a.lt).trans a.box) (a.inp.below f Zr) (a.val.keep (X:=XN) b c id) (a.o.keep (X:=XN) b c id) (a.frs.keep (X:=XN) b c f ⟨id,fun d _=>⟨id,id,fun i=>⟨id,id⟩⟩⟩ Zr) (a.arr.keep (X:=XN) b c ⟨id,fun _=>id⟩) a.nv a.ni a.no a.lim).1
theorem gD.called(j:gD G τ w m vi vv pa vo){wr:C4}{q l:List Int}{a:Option Addr}{n c mp:Nat}(af:vv=.slice a n c)(z:m.v=q++l)(t:Cy w wr)(S:gP τ τ' w){fu:Fu}{td:C3}(V:jU G.p td=some fu){aj f:C5}(W:G.fv td=.agg #[aj,f])(_:l.length=fu.params.length)
 {tm:List Nat} (Y:tm.length=l.length) (y:fZ wr mp l.length (.pointer none) (gE (fN fu l) tm)) (aa:τ' mp=.vmap m.cs.length 0) (ab:w.heap.size<=mp) (R:∀i b x,tm[i]?=some b->l[i]?=some x->w.heap.size<=b/\τ' b=.cel m.cs.length i/\wr.heap[b]?=some (.cells #[(x:Int)] 3)):
 (∃τ,MW G τ (((wr.setCell (G.b,3) (a,q.length,c)).alloc (F5 f 0 mp (.slice none 0 0) pa)).setCell (G.b,4) (wr.heap.size,0)) ⟨m.s,q,⟨gF fu,0,fN fu l,[]⟩::m.cs⟩)/\
 Below G.B w (((wr.setCell (G.b,3) (a,q.length,c)).alloc (F5 f 0 mp (.slice none 0 0) pa)).setCell (G.b,4) (wr.heap.size,0)):=by
 have al:=j.lt;have e:=j.relab t S;have ak:=t.size;have r:=e.val;rw[af,z]at r;obtain⟨_,_,ag⟩:=r.form;injection ag with J K L;subst J L;rw[K]at r;obtain⟨C,N⟩:=e.wu (m':=⟨m.s,q,m.cs⟩) 3 (.slice a q.length c) (D3 e.box _) e.inp r.cut e.o e.frs rfl (fun n ad=>e.nv n (by rw[z];exact List.mem_append_left _ ad)) e.ni e.no e.lim;have A:(wr.setCell (G.b,3) (a,q.length,c)).heap.size=wr.heap.size:=Uk
 have D:Below (wr.setCell (G.b,3) (a,q.length,c)).heap.size (wr.setCell (G.b,3) (a,q.length,c)) ((wr.setCell (G.b,3) (a,q.length,c)).alloc (F5 f 0 mp (.slice none 0 0) pa)):=Zb.alloc Zr _;have d:=C.relab D (gP.lbl τ' _ (.frm m.cs.length) (by rw[A];exact D0 wr.heap.size));have ae:((wr.setCell (G.b,3) (a,q.length,c)).alloc (F5 f 0 mp (.slice none 0 0) pa)).heap[wr.heap.size]?=some (F5 f 0 mp (.slice none 0 0) pa):=by have:=Ds (wr.setCell (G.b,3) (a,q.length,c)) (F5 f 0 mp (.slice none 0 0) pa);rw[A]at this;exact this
 have E:∀k,w.heap.size<=k->k<wr.heap.size->((wr.setCell (G.b,3) (a,q.length,c)).alloc (F5 f 0 mp (.slice none 0 0) pa)).heap[k]?=wr.heap[k]?:=fun k _ X=>(D7 _ _ k (by rw[A];exact X)).trans (Dw wr _ _ k (by show k≠G.b;omega))
 obtain⟨_,_,hF⟩:=d.db;obtain⟨_,_,f1,_,f3⟩:=hF td fu V;rw[W]at f1;simp only[Value.agg.injEq,Array.mk.injEq,Cb,and_true]at f1;obtain⟨rfl,rfl⟩:=f1;have F:(fN fu l).length=l.length:=by unfold fN;rw[List.length_zip,Yh];omega
 have H:∀(i:Nat) (x:C3×Int),(fN fu l)[i]?=some x->l[i]?=some x.2:=fun i x g=>by
  unfold fN at g;rw[Cr]at g;exact g.2
 have T:HY G.B (SM τ' wr.heap.size (.frm m.cs.length)) ((wr.setCell (G.b,3) (a,q.length,c)).alloc (F5 f 0 mp (.slice none 0 0) pa)) (.pointer (some ⟨wr.heap.size,0,none⟩)) (⟨gF fu,0,fN fu l,[]⟩::m.cs):=by
  refine⟨wr.heap.size,pa,f,mp,.slice none 0 0,tm,[],rfl,⟨ae,zAh _ _ _,f3,by rw[Y];exact F.symm,fun i b x u g=>?_,⟨?_,?_⟩,rfl,Yp _ _ _ _,fun b u=>(by cases u),fun i m k Z=>(by cases Z),Uh⟩,d.frs⟩
  .obtain⟨ah,ai,I⟩:=R i b x.2 u (H i x g)
   have Q:=zB I;exact⟨(zAi τ' _ O).trans ai,(E b ah Q).trans I,j.nv x.2 (by rw[z];exact Y3 _ (Yc (H i x g)))⟩
  .exact(zAi τ' _ (by have:=y.lt;omega)).trans aa
  .rw[F]
   exact y.wd (E mp ab y.lt)
 obtain⟨M,P⟩:=d.wu (m':=⟨m.s,q,⟨gF fu,0,fN fu l,[]⟩::m.cs⟩) 4 (.pointer (some ⟨wr.heap.size,0,none⟩)) (D3 d.box _) d.inp d.val d.o T rfl d.nv d.ni d.no d.lim;exact⟨⟨_,_,_,_,_,M⟩,(((t.mono j.hB).trans N).trans (D.mono C.hB)).trans P⟩
end
theorem YA(w:C4):(zeroValue 120).run Tryz.prog w=.ok (.agg #[(),()]) w:=by kernel_rfl
abbrev OQ(b a:C5):Obj:=.cells #[b,a] 120
theorem zat(a:f5 p=true)(d:f∈p.funcs):f.params.length<=8/\∀x∈f.params,x.name.size<=maxLen:=by
 refine⟨((II a) f d).1,fun x e=>?_⟩;unfold f5 at a;rw[D2,Y9,Y9]at a;have b:=a.2 f d;unfold yj at b;simp only[D2,decide_eq_true_eq,Y9]at b;have c:=b.1.2 x e;unfold ut at c;simp only[D2]at c;exact vW c.1
theorem HY.ptr{l:List Fr}(b:HY B τ w v l):∃p,v=.pointer p:=by
 cases l with
 |nil=>exact⟨_,b⟩
 |cons c r=>
   obtain⟨a,pa,_,mp,vo,tm,_,d,_⟩:=b;exact⟨_,d⟩
structure DO (w wr:C4) (τ τr:Nat->Lb) (d:Nat) (l:List Int) (fu:Fu) (mp j:Nat) (locs:List Nat):Prop where
 len:locs.length=j
 ext:gP τ τr w
 map:fZ wr mp j (.pointer none) (gE ((fN fu l).take j) locs)
 cell:∀i b x,locs[i]?=some b->l[i]?=some x->w.heap.size<=b/\τr b=.cel d i/\wr.heap[b]?=some (.cells #[(x:Int)] 3)
 lab:τr mp=.vmap d 0
theorem DO.next{wr W m:C4}{τr:Nat->Lb}{mp:Nat}{tm:List Nat}(c:DO w wr τ τr d l fu mp j tm)(_:w.heap.size<=wr.heap.size)(q:Cy wr W){x:Pa}(r:fu.params[j]?=some x)(n:l[j]?=some a)
 (A:fZ m mp (j+1) (.pointer none) (NY (gE ((fN fu l).take j) tm) x.name (.pointer (some ⟨W.heap.size,0,none⟩)))) (C:m.heap[W.heap.size]?=some (.cells #[(a:Int)] 3)) (D:fF (fun k=>k=mp) W m):
 DO w m τ (SM τr W.heap.size (.cel d j)) d l fu mp (j+1) (tm++[W.heap.size]):=by
 have M:=q.size;have L:=c.map.lt
 have E:(fN fu l).take (j+1)=(fN fu l).take j++[(x.name,a)]:=by
  have:(fN fu l)[j]?=some (x.name,a):=by
   unfold fN;rw[Cr,Yn,r];exact⟨rfl,n⟩
  rw[Yt,this];rfl
 have K:j<(fN fu l).length:=by
  unfold fN;have I:=(List.getElem?_eq_some_iff.1 r).1;have J:=(List.getElem?_eq_some_iff.1 n).1;rw[List.length_zip,Yh];omega
 have F:((fN fu l).take j).length=j:=Vu
 refine⟨by rw[Dr,c.len];rfl,fun k z=>(zAi τr _ O).trans (c.ext k z),A.congr fun s=>by rw[E];exact GW _ _ (by rw[c.len,F]) (x.name,a) _ s,fun i b H f g=>?_,(zAi τr _ O).trans c.lab⟩;rcases Cf i tm.length with o|o
 .rw[Yo o]at f
  obtain⟨G,p,t⟩:=c.cell i b H f g;have v:=zB t;have B:b≠mp:=fun e=>by rw[e,c.lab]at p;cases p
  exact⟨G,(zAi τr _ O).trans p,(D.block b O B).trans ((q.block b v).trans t)⟩
 .rw[Yi o]at f
  have u:i-tm.length=0:=by
   have:=(List.getElem?_eq_some_iff.1 f).1;simp at this;omega
  rw[u]at f;simp at f;subst f;have y:i=j:=by have:=c.len;omega
  subst y;rw[n]at g;injection g with g;subst g;exact⟨O,zAh _ _ _,C⟩
theorem BO(be:MW G τ w m)(aa:m.v=q++l)(_:q.length<=2000000000){td:C3}(J:jU G.p td=some fu)(bb:l.length=fu.params.length)(bg:td.size<=maxLen):
 Cz 69 #[(G.b,0),td] w (g6 G w ⟨m.s,q,⟨gF fu,0,fN fu l,[]⟩::m.cs⟩ (.tuple #[])):=by
 obtain⟨vi,vv,pa,vo,u⟩:=be;obtain⟨_,rfl⟩:=u.frs.ptr;obtain⟨_,⟨_,aq⟩,hF⟩:=u.db;obtain⟨_,_,X,Z,a6⟩:=hF td fu J;have bc:=aq.look (t:=70) underlying70 (YA w) bg;rw[X]at bc;obtain⟨r,n,bk,_⟩:=Z.form;subst bk;obtain⟨az,c,L⟩:=u.val.form;have an:m.v.length=q.length+l.length:=by rw[aa,Dr]
 rw[an]at L;obtain⟨_,av⟩:=zat u.pok (hY J);obtain⟨⟨aP,aQ,aR,R,aS,aT,aU,aV,aW,aX⟩,aY⟩:=zD u.box;have ao:=u.lt;rw[L]at R;have bR:IntKind.i64.wrap (((q.length+l.length:Nat):Int)-(fu.params.length:Int))=(q.length:Int):=Un
 have H:=U u;have aK:=U Z;have F:=U L;have Q:=U aa;have aE:=U J;have aF:=U X;have E:=U bb;have aI:=U av;obtain⟨d,f,bj,_⟩:=a6;subst bj;clear u Z L aa J X av aq hF an;have bO:=@run_makeMap Tryz.prog;have bm:=Ds w (OQ (.slice r fu.params.length n) (.slice d (gF fu).length f));have N:(w.alloc (OQ (.slice r fu.params.length n) (.slice d (gF fu).length f))).heap.size=w.heap.size+1:=zA _ _;have ag:Cy w ((w.alloc (OQ (.slice r fu.params.length n) (.slice d (gF fu).length f))).alloc (.map #[] 0)).drew:=(((D4 w.heap.size w).alloc Zr _).alloc (by rw[N];omega) _).drew;have af:fZ ((w.alloc (OQ (.slice r fu.params.length n) (.slice d (gF fu).length f))).alloc (.map #[] 0)).drew (w.heap.size+1) 0 (.pointer none) (gE [] []):=(N▸oS (w.alloc (OQ (.slice r fu.params.length n) (.slice d (gF fu).length f))) (.pointer none):fZ ((w.alloc (OQ (.slice r fu.params.length n) (.slice d (gF fu).length f))).alloc (.map #[] 0)) (w.heap.size+1) 0 (.pointer none) (gE [] [])).wd rfl;have aw:((w.alloc (OQ (.slice r fu.params.length n) (.slice d (gF fu).length f))).alloc (.map #[] 0)).drew.heap[w.heap.size]?=some (OQ (.slice r fu.params.length n) (.slice d (gF fu).length f)):=(D7 _ _ _ (by rw[N];omega)).trans bm
 have ab:((w.alloc (OQ (.slice r fu.params.length n) (.slice d (gF fu).length f))).alloc (.map #[] 0)).drew.heap.size=w.heap.size+2:=by
  show((w.alloc (OQ (.slice r fu.params.length n) (.slice d (gF fu).length f))).alloc (.map #[] 0)).heap.size=_;rw[zA,N]
 have aB:=U ag;have aG:=U af;have aM:=U aw;clear ag af aw;go_enter func69,ntmps69;go_wp2_with fail
 go_region
 go_wp2_with fail;generalize((w.alloc (OQ (.slice r fu.params.length n) (.slice d (gF fu).length f))).alloc (.map #[] 0)).drew=W1 at *;have bS:=Dv ab;have bT:=Dv ab.symm;clear ab
 go_loopw [28] (fun iv wr=>∃(j:Nat) (tm:List Nat) (τr:Nat->Lb),j<=l.length/\iv=.int .i64 (j:Int)/\Cy w wr/\DO w wr τ τr m.cs.length l fu (w.heap.size+1) j tm/\wr.heap[w.heap.size]?=some (OQ (.slice r fu.params.length n) (.slice d (gF fu).length f))) (fun iv _=>l.length-(intOf iv).toNat)
 case atStart=>exact⟨0,[],SM τ (w.heap.size+1) (.vmap m.cs.length 0),Dx _,rfl,aB.o,⟨rfl,gP.lbl τ w _ O,aG.o,(fun i b x a3=>by cases a3),zAh _ _ _⟩,aM.o⟩
 case round=>
  obtain⟨j,tm,τr,_,rfl,ai,al,M⟩:=hrel;have D:=U ai;have y:=U al;have aN:=U M;have bl:w.heap.size<wr.heap.size:=zB M;obtain⟨⟨_,_⟩,_⟩:=zG M;clear ai al M;by_cases bd:j<l.length
  .obtain⟨x,C⟩:∃x,fu.params[j]?=some x:=⟨_,Dz (by have:=E.o;omega)⟩
   obtain⟨a,T⟩:∃a,l[j]?=some a:=⟨_,Dz bd⟩
   have a5:=D.o.mono H.o.hB;obtain⟨ae,op,rfl,_,_,_⟩:=(aK.o.below a5 Zr).cells C;have bC:ae<wr.heap.size:=Jz
   have bJ:j<fu.params.length:=(List.getElem?_eq_some_iff.1 C).1;have A:Cy wr (wr.alloc (.cells #[x.name,(x.type:Int)] 100)):=Zb.alloc Zr _;have bP:(wr.alloc (.cells #[x.name,(x.type:Int)] 100)).heap.size=wr.heap.size+1:=zA _ _;have Y:(wr.alloc (.cells #[x.name,(x.type:Int)] 100)).heap[wr.heap.size]?=some (.cells #[x.name,(x.type:Int)] 100):=Ds wr _;go_upto_region 6 with fail;generalize wr.alloc (.cells #[x.name,(x.type:Int)] 100)=W at *;have I:Cy w W:=D.o.trans (A.mono O)
   obtain⟨ad,rfl,a8,bi⟩:∃g,az=some ⟨g,0,none⟩/\g<w.heap.size/\w.cell? ⟨g,q.length+j,none⟩=some (.int .i64 a):=by
    have z:=H.o.val.1;rw[F.o]at z;obtain⟨g,_,S,_,a0,_,a1,_⟩:=xE z (by rw[Q.o,Dr];omega);injection S with S _ _;refine⟨g,S,a0,a1 _ _ ?_⟩;rw[Q.o,Yj,Yi Uh,Yh,show q.length+j-q.length=j by omega,Yn,T];rfl
   have bo:=(I.cell (p:=(G.b,3)) ao).trans R;have bp:=(I.cell (p:=(ad,q.length+j)) a8).trans bi;obtain⟨⟨bu,bv⟩,bw⟩:=zG Y;have bx:=zB Y;have bM:G.b<W.heap.size:=O
   have bA:ad<W.heap.size:=O
   have bG:j<q.length+fu.params.length:=O
   have bI:q.length+j<q.length+fu.params.length:=O
   have bH:(q.length:Int)+(j:Int)<(q.length:Int)+(fu.params.length:Int):=O
   have bQ:IntKind.i64.wrap ((q.length:Int)+(j:Int))=((q.length+j:Nat):Int):=Un
   have bD:(0 :Int)<=(q.length:Int)+(j:Int):=O
   have bK:((q.length:Int)+(j:Int)).toNat=q.length+j:=O
   have bF:¬((q.length:Int)+(j:Int)<0):=O
   go_still_tail 12,(by kernel_rfl)
   repeat still_step
   change wpList _ _ _ _ _ W.drew;have ar:fZ W.drew (w.heap.size+1) j (.pointer none) (gE ((fN fu l).take j) tm):=y.o.map.wd (A.block _ y.o.map.lt);have aH:=U ar;have aJ:=U A;have aC:=U I;have bn:x.name.size<=maxLen:=aI.o x (Yc C);have aL:=U C;have aA:=U T;have aO:=U ((A.block _ bl).trans aN.o);have a9:j<=2000000000:=O
   clear A I Y C T bu bv bw bo bp ar
   go_wp2_with (go_at_call 92;(with_reducible refine(BG aH.o a9 x.name bn a).mono ?_);rintro e ay ⟨rfl,ap,au,K,bh⟩
                have ax:ay.heap[w.heap.size]?=some (OQ (.slice (some ⟨ae,op,none⟩) fu.params.length n) (.slice d (gF fu).length f)):=(K.block _ (show w.heap.size<W.heap.size by omega) (fun(e:w.heap.size=w.heap.size+1)=>O)).trans aO.o;have ah:Cy w ay:=aC.o.trans (((fF.drew (fun k=>k=w.heap.size+1) W).trans K fun _ _ u=>u).below (B:=w.heap.size) (show w.heap.size<=W.heap.size by omega) fun k _ (e:k=w.heap.size+1)=>O);have am:=y.o.next O aJ.o aL.o aA.o ap au ((fF.drew (fun k=>k=w.heap.size+1) W).trans K fun _ _ u=>u);have P:=U (Dt ah (Dt am ax))
                clear ap au K bh ax ah am)
   go_roundw
   case rel=>exact⟨j+1,_,_,O,by go_num,P.o.1,P.o.2.1,P.o.2.2⟩
   case measure=>simp[intOf];omega
  .have ba:j=l.length:=by omega
   subst ba;have bf:(fN fu l).length=l.length:=by unfold fN;rw[List.length_zip,Yh];have:=E.o;omega
   have V:=(D.o.block _ ao).trans H.o.box;rw[F.o]at V;have a7:fZ wr (w.heap.size+1) l.length (.pointer none) (gE (fN fu l) tm):=y.o.map.congr fun s=>by rw[Ye (Dv bf)]
   have ak:=H.o.called (τ':=τr) (mp:=w.heap.size+1) (tm:=tm) (wr:=wr) F.o Q.o D.o y.o.ext aE.o aF.o E.o y.o.len a7 y.o.lab (Nat.le_succ _) y.o.cell;have aD:=U ak;obtain⟨⟨_,_,_,aZ,_,_,_,_,_,_⟩,_⟩:=zD V;rw[E.o]at aZ;have bN:G.b<wr.heap.size:=O
   have bL:q.length<=c:=by
    have z:=H.o.val.1;rw[F.o]at z;have:=nC z _ _ _ rfl;omega
   clear V ak aP aQ aR R aS aT aU aV aW aX aY;go_wp2_with fail
   go_region
   all_goals go_wp2_with fail
   all_goals go_end0
   all_goals
    have aj:=aD.o;rw[World.setCell_alloc_past _ _ _ _ (by show G.b<(wr.setCell _ _).heap.size;simp[World.setCell];omega)]at aj;obtain⟨⟨τ9,bq,br,bs,bt,a2⟩,a4⟩:=aj;exact⟨rfl,⟨τ9,bq,br,bs,bt,a2.drew⟩,a4.drew⟩
section
variable {G:Gm}{τ:Nat->Lb}{w:C4}{m:Vm}{vi vv pa vo:C5}
theorem gD.pay(a:gD G τ w m vi vv pa vo)(c:m.s.cost+1+m.s.fuel<=1000000000):
 gD G τ (w.setCell (G.b,8) (((m.s.cost:Int)+1):Int)) ⟨zV m.s,m.v,m.cs⟩ vi vv pa vo/\Below G.B w (w.setCell (G.b,8) (((m.s.cost:Int)+1):Int)):=
 a.wu (m':=⟨zV m.s,m.v,m.cs⟩) 8 (.int .i64 ((m.s.cost:Int)+1)) (D3 a.box _) a.inp a.val a.o a.frs rfl a.nv a.ni (Nat.le_succ_of_le a.no) c
theorem pR.cells{B:Nat}{v:C5}{k op n:Int}{td:C3}{tc:List Ex}(d:pR B w v (.mk k op n td tc)):
 ∃g o,v=.pointer (some ⟨g,o,none⟩)/\g<B/\w.cell? ⟨g,o,none⟩=some (.int .i64 k)/\w.cell? ⟨g,o+1,none⟩=some (.int .i64 op)/\w.cell? ⟨g,o+2,none⟩=some (.int .i64 n)/\w.cell? ⟨g,o+3,none⟩=some (.string td)/\fT n/\∃c,w.cell? ⟨g,o+4,none⟩=some c/\kW B w c tc:=by
 obtain⟨g,o,rfl,b⟩:=d;rw[z3]at b;obtain⟨a,e,f,i,l,v,j,m⟩:=b;exact⟨g,o,rfl,a.1,a.2,e.2,f.2,i.2,l,v,j.2,m⟩
theorem oT.cells{B:Nat}{v:C5}{k c:Int}{td:C3}{tc:List Ex}{tg th:List St}(i:oT B w v (.mk k c td tc tg th)):
 ∃g o,v=.pointer (some ⟨g,o,none⟩)/\g<B/\w.cell? ⟨g,o,none⟩=some (.int .i64 k)/\w.cell? ⟨g,o+1,none⟩=some (.int .i64 c)/\w.cell? ⟨g,o+2,none⟩=some (.string td)/\(∃d,w.cell? ⟨g,o+3,none⟩=some d/\kW B w d tc)/\(∃f,w.cell? ⟨g,o+4,none⟩=some f/\f6 B w f tg)/\∃e,w.cell? ⟨g,o+5,none⟩=some e/\f6 B w e th:=by
 obtain⟨g,o,rfl,b⟩:=i;rw[EP]at b;obtain⟨a,j,l,⟨t,m,q⟩,⟨u,n,r⟩,x,p,s⟩:=b;exact⟨g,o,rfl,a.1,a.2,j.2,l.2,⟨t,m.2,q⟩,⟨u,n.2,r⟩,x,p.2,s⟩
end
theorem t5(f:MW G τ w m){k:Int}{td:C3}{tc:List Ex}(d:pR G.B w v (.mk k op n td tc))(t:k=1\/k=2)(u:m.v.length<=2000000000):
 Cz 94 #[(G.b,0),v] w (g6 G w ⟨m.s,m.v++[n],m.cs⟩ (.tuple #[])):=by
 obtain⟨g,o,rfl,_,_,_,_,_,j,_⟩:=d.cells;have p:=U f;have r:=U j;obtain⟨vi,vv,pa,vo,a⟩:=f;have z:=a.lt;have x:=a.hB;have y:g<w.heap.size:=O
 clear a d j;rcases t with rfl|rfl
 all_goals
  go_enter func94,ntmps94
  go_wp2_with (first
   | (go_at_call 97;(with_reducible refine(yP p.o n r.o u).mono ?_);rintro e _ ⟨rfl,i,c⟩
      have q:=U i;have l:=U c
      clear i c))
  go_end0
  exact⟨rfl,q.o,l.o⟩
theorem t6(w:C4):(zeroValue 177).run Tryz.prog w=.ok (.pointer none) w:=by kernel_rfl
theorem rK.var{a:Nat}{pa:C5}{c:Fr}{p:C5}{mp:Nat}{vo:C5}{tm l:List Nat}(i:rK B τ w d a pa c p mp vo tm l){td:C3}(f:jc c.vs td=some j):
 ∃b x,tm[j]?=some b/\c.vs[j]?=some x/\gE c.vs tm td=.pointer (some ⟨b,0,none⟩)/\τ b=.cel d j/\w.heap[b]?=some (.cells #[(x.2:Int)] 3)/\fT x.2/\pF c.vs td=x.2:=by
 have k:=yR f;obtain⟨b,e⟩:∃b,tm[j]?=some b:=⟨_,Dz (by rw[i.ll];exact k)⟩
 obtain⟨x,g⟩:∃x,c.vs[j]?=some x:=⟨_,Dz k⟩
 obtain⟨m,n,o⟩:=i.cell j b x e g;refine⟨b,x,e,g,?_,m,n,o,?_⟩
 .unfold gE
  rw[f];dsimp only;rw[e]
 .unfold pF
  rw[f];dsimp only;rw[g];rfl
theorem JM(A:MW G τ w m){td:C3}{tc:List Ex}(q:pR G.B w v (.mk 3 op n td tc)){c:Fr}{r:List Fr}(p:m.cs=c::r)(z:jc c.vs td=some j)(D:td.size<=maxLen)(K:m.v.length<=2000000000):
 Cz 94 #[(G.b,0),v] w (g6 G w ⟨m.s,m.v++[pF c.vs td],m.cs⟩ (.tuple #[])):=by
 obtain⟨g,o,rfl,_,_,_,_,_,_,_⟩:=q.cells;have P:=U A;obtain⟨vi,vv,pa,vo,d⟩:=A;have X:=d.lt;have Q:=d.hB;have T:g<w.heap.size:=O
 obtain⟨⟨_,_,_,_,_,_,_,_,_,_⟩,_⟩:=zD d.box;have u:=d.frs;rw[p]at u;obtain⟨a,_,_,mp,_,tm,_,rfl,f,_⟩:=u;obtain⟨⟨_,_,_,_,_⟩,_⟩:=zS f.box;have V:=zB f.box;obtain⟨b,x,J,M,k,_,i,N,y⟩:=f.var z;have L:=f.map.2.look (t:=163) underlying163 (t6 w) D;rw[k]at L
 have W:(Instr.lookup 163 (.map (some mp)) (.string td) false).run Tryz.prog w.drew=.ok (.pointer (some ⟨b,0,none⟩)) w.drew:=by
  have:=(f.map.2.wd (w':=w.drew) rfl).look (t:=163) underlying163 (t6 _) D;rw[k]at this;exact this
 have R:w.cell? (b,0)=some (.int .i64 x.2):=(Du i 0).trans rfl;have S:=zB i;rw[y];have I:=U N;have H:=C2 (MW G τ w.drew m) ⟨_,_,_,_,d.drew⟩;clear d f p z J M k i y q;go_enter func94,ntmps94;go_wp2_with fail
 go_still_tail 15,(by kernel_rfl)
 repeat still_step
 change wpList _ _ _ _ _ w.drew
 go_wp2_with (first
  | (go_at_call 97;(refine(yP H.o x.2 I.o K).mono ?_);rintro e _ ⟨rfl,C,l⟩
     have F:=U C;have E:=U l
     clear C l))
 go_end0
 exact⟨rfl,F.o,Zb.drew.trans E.o⟩
theorem gD.paid{vi vv pa vo:C5}(h:gD G τ w m vi vv pa vo):(w.setCell (G.b,8) (((m.s.cost:Int)+1):Int)).heap[G.b]?=some (XS G vi vv pa vo (zV m.s)):=D3 h.box _
theorem JN(af:MW G τ w m){td:C3}{tc:List Ex}(N:pR G.B w v (.mk 4 op n td tc))(k:m.v=q++[a])(_:q.length<=1000000000)(ah:m.s.cost+1+m.s.fuel<=1000000000):
 Cz 94 #[(G.b,0),v] w (g6 G w ⟨zV m.s,q++[rV op a],m.cs⟩ (.tuple #[])):=by
 obtain⟨g,o,rfl,_,ab,K,ad,ae,_,_⟩:=N.cells;obtain⟨vi,vv,pa,vo,d⟩:=af;have aq:=d.lt;have am:=d.hB;have an:=d.hBb;have ap:g<w.heap.size:=O
 have ag:g≠G.b:=O
 have au:G.b≠g:=O
 obtain⟨⟨u,y,z,A,C,D,E,F,H,I⟩,J⟩:=zD d.box;have R:=d.pay ah;have av:IntKind.i64.wrap ((m.s.cost:Int)+1)=(m.s.cost:Int)+1:=Un
 have j:fT a:=d.nv a Gv;have p:=U R;have V:=U j;have Z:=U (K7 op j);have aa:=U k;have P:=fun i=>(Dw w ⟨G.b,8,none⟩ (.int .i64 ((m.s.cost:Int)+1)) i)
 have l:(w.setCell (G.b,8) (((m.s.cost:Int)+1):Int)).heap.size=w.heap.size:=Uk
 have M:∀i,(w.setCell (G.b,8) (((m.s.cost:Int)+1):Int)).cell? ⟨g,i,none⟩=w.cell? ⟨g,i,none⟩:=fun i=>D6 (P g ag)
 have al:(w.setCell (G.b,8) (((m.s.cost:Int)+1):Int)).cell? (g,o+1)=some (.int .i64 op):=(M _).trans K;have r:=U d.paid;clear d N R j P M k;go_enter func94,ntmps94;go_upto_region 9 with fail;have ax:=Dv l;have aw:=Dv l.symm;generalize w.setCell (G.b,8) (((m.s.cost:Int)+1):Int)=W at *;clear l u y z A C D E F H I J ab K ad ae;have ao:g<W.heap.size:=O
 obtain⟨_,c,rfl,ai,aj,ak,_,S,T⟩:=p.o.1.wn (q:=q) (x:=a) aa.o;have t:=U (Dt S T);have f:=r.o;obtain⟨⟨u,y,z,A,C,D,E,F,H,I⟩,J⟩:=zD f;have ar:G.b<W.heap.size:=zB f;clear S T f
 go_region_law (first
  |(go_simp;go_at_call 96;(refine(xv (w:=W.drew) r.o ai aj ak O).mono ?_);rintro e _ ⟨rfl,rfl⟩)
  |(go_simp;go_at_call 113;(refine(SO op a (ZQ V.o) _).mono ?_);rintro e _ ⟨rfl,rfl⟩)
  | (go_simp;go_at_call 97;(refine(yP (m:=⟨zV m.s,q,m.cs⟩) ⟨_,_,_,_,t.o.1.drew⟩ (rV op a) Z.o Xx).mono ?_);rintro e _ ⟨rfl,Q,L⟩
     have Y:=U Q;have X:=U L
     clear Q L))
 all_goals
  go_wp2_with fail
  go_end0
  exact⟨rfl,Y.o,(p.o.2.trans t.o.2.drew).trans X.o⟩
theorem t7(Y:MW G τ w m){td:C3}{tc:List Ex}(u:pR G.B w v (.mk 5 op n td tc)){b:Int}(f:m.v=q++[a]++[b])(X:q.length<=1000000000)(A:ur op b=true)(aa:m.s.cost+1+m.s.fuel<=1000000000):
 Cz 94 #[(G.b,0),v] w (g6 G w ⟨zV m.s,q++[uH op a b],m.cs⟩ (.tuple #[])):=by
 obtain⟨g,o,rfl,_,l,p,V,r,_,_⟩:=u.cells;obtain⟨vi,vv,pa,vo,c⟩:=Y;have aj:=c.lt;have af:=c.hB;have ag:=c.hBb;have ai:g<w.heap.size:=O
 have Z:g≠G.b:=O
 have ak:G.b≠g:=O
 obtain⟨⟨I,J,K,L,M,N,P,Q,R,S⟩,T⟩:=zD c.box;have z:=c.pay aa;have al:IntKind.i64.wrap ((m.s.cost:Int)+1)=(m.s.cost:Int)+1:=Un
 have k:=U z;have x:=fun i=>(Dw w ⟨G.b,8,none⟩ (.int .i64 ((m.s.cost:Int)+1)) i)
 have j:(w.setCell (G.b,8) (((m.s.cost:Int)+1):Int)).heap.size=w.heap.size:=Uk
 have d:∀i,(w.setCell (G.b,8) (((m.s.cost:Int)+1):Int)).cell? ⟨g,i,none⟩=w.cell? ⟨g,i,none⟩:=fun i=>D6 (x g Z)
 have ab:(w.setCell (G.b,8) (((m.s.cost:Int)+1):Int)).cell? (g,o)=some (.int .i64 5):=(d _).trans l;have ad:(w.setCell (G.b,8) (((m.s.cost:Int)+1):Int)).cell? (g,o+1)=some (.int .i64 op):=(d _).trans p;have ae:(w.setCell (G.b,8) (((m.s.cost:Int)+1):Int)).cell? (g,o+3)=some (.string td):=(d _).trans r;have C:=U (c.nv a Gr);have F:=U f;clear f;have H:=U A;clear A;clear c u z x d;go_enter func94,ntmps94;go_upto_region 11 with fail;have an:=Dv j;have am:=Dv j.symm;generalize w.setCell (G.b,8) (((m.s.cost:Int)+1):Int)=W at *;clear j I J K L M N P Q R S T l p V r;have ah:g<W.heap.size:=O
 go_wp2_with (first
  | (go_at_call 114;(refine(SR (m:=⟨zV m.s,m.v,m.cs⟩) ⟨_,_,_,_,k.o.1⟩ F.o X C.o op H.o).mono ?_);rintro e _ ⟨rfl,y,t⟩
     have E:=U y;have D:=U t
     clear y t))
 go_end0
 exact⟨rfl,E.o,k.o.2.trans D.o⟩
theorem x7(T:MW G τ w m){td:C3}{tc:List Ex}(t:pR G.B w v (.mk 5 op n td tc)){b:Int}(f:m.v=q++[a]++[b])(S:q.length<=1000000000)(y:ur op b=false)(Y:m.s.cost+1+m.s.fuel<=1000000000):
 Cz 94 #[(G.b,0),v] w (yc G w none (kR (zV m.s) 2)):=by
 obtain⟨g,o,rfl,_,l,p,Q,r,_,_⟩:=t.cells;obtain⟨vi,vv,pa,vo,c⟩:=T;have ah:=c.lt;have ad:=c.hB;have ae:=c.hBb;have ag:g<w.heap.size:=O
 have X:g≠G.b:=O
 have ai:G.b≠g:=O
 obtain⟨⟨D,E,F,H,I,J,K,L,M,N⟩,P⟩:=zD c.box;have x:=c.pay Y;have aj:IntKind.i64.wrap ((m.s.cost:Int)+1)=(m.s.cost:Int)+1:=Un
 have k:=U x;have u:=fun i=>(Dw w ⟨G.b,8,none⟩ (.int .i64 ((m.s.cost:Int)+1)) i)
 have j:(w.setCell (G.b,8) (((m.s.cost:Int)+1):Int)).heap.size=w.heap.size:=Uk
 have d:∀i,(w.setCell (G.b,8) (((m.s.cost:Int)+1):Int)).cell? ⟨g,i,none⟩=w.cell? ⟨g,i,none⟩:=fun i=>D6 (u g X)
 have Z:(w.setCell (G.b,8) (((m.s.cost:Int)+1):Int)).cell? (g,o)=some (.int .i64 5):=(d _).trans l;have aa:(w.setCell (G.b,8) (((m.s.cost:Int)+1):Int)).cell? (g,o+1)=some (.int .i64 op):=(d _).trans p;have ab:(w.setCell (G.b,8) (((m.s.cost:Int)+1):Int)).cell? (g,o+3)=some (.string td):=(d _).trans r;have z:=U (c.nv a Gr);have A:=U f;clear f;have C:=U y;clear y;clear c t x u d;go_enter func94,ntmps94;go_upto_region 11 with fail;have al:=Dv j;have ak:=Dv j.symm;generalize w.setCell (G.b,8) (((m.s.cost:Int)+1):Int)=W at *;clear j D E F H I J K L M N P l p Q r;have af:g<W.heap.size:=O
 go_wp2_with (first
  |(go_at_call 114;(refine(XU (m:=⟨zV m.s,m.v,m.cs⟩) ⟨_,_,_,_,k.o.1⟩ A.o S z.o op C.o).mono ?_);rintro e _ ⟨rfl,V,R⟩;exact⟨rfl,rfl,V,k.o.2.trans R⟩))
theorem t8(au:MW G τ w m){td:C3}{tc:List Ex}(F:pR G.B w v (.mk 6 op n td tc)){i:Int}(Q:m.v=q++[i])(_:q.length<=1000000000)(J:zZ G.p.wa td=some k)(L:m.s.arr[k]?=some l)(ay:td.size<=maxLen)(I:0<=i/\i<(l.length:Int))(aw:m.s.cost+1+m.s.fuel<=1000000000):
 Cz 94 #[(G.b,0),v] w (g6 G w ⟨zV m.s,q++[l.getD i.toNat 0],m.cs⟩ (.tuple #[])):=by
 obtain⟨g,o,rfl,_,z,A,an,C,_,_⟩:=F.cells;obtain⟨vi,vv,pa,vo,a⟩:=au;have aJ:=a.lt;have aD:=a.hB;have aE:=a.hBb;have aI:g<w.heap.size:=O
 have av:g≠G.b:=O
 have aK:G.b≠g:=O
 obtain⟨⟨aa,ab,ad,ae,af,ag,ah,ai,aj,ak⟩,al⟩:=zD a.box;have P:=a.pay aw;have aL:IntKind.i64.wrap ((m.s.cost:Int)+1)=(m.s.cost:Int)+1:=Un
 have f:=U P;have K:=fun i=>(Dw w ⟨G.b,8,none⟩ (.int .i64 ((m.s.cost:Int)+1)) i)
 have r:(w.setCell (G.b,8) (((m.s.cost:Int)+1):Int)).heap.size=w.heap.size:=Uk
 have c:∀i,(w.setCell (G.b,8) (((m.s.cost:Int)+1):Int)).cell? ⟨g,i,none⟩=w.cell? ⟨g,i,none⟩:=fun i=>D6 (K g av)
 have aA:(w.setCell (G.b,8) (((m.s.cost:Int)+1):Int)).cell? (g,o)=some (.int .i64 6):=(c _).trans z;have aB:(w.setCell (G.b,8) (((m.s.cost:Int)+1):Int)).cell? (g,o+1)=some (.int .i64 op):=(c _).trans A;have aC:(w.setCell (G.b,8) (((m.s.cost:Int)+1):Int)).cell? (g,o+3)=some (.string td):=(c _).trans C;have Y:=U Q;have u:=U J;have y:=U L;have t:=U I;clear Q J L I;clear a F P K c;go_enter func94,ntmps94;go_upto_region 13 with fail;have aN:=Dv r;have aM:=Dv r.symm;generalize w.setCell (G.b,8) (((m.s.cost:Int)+1):Int)=W at *;clear r aa ab ad ae af ag ah ai aj ak al z A an C;have aG:g<W.heap.size:=O
 go_wp2_with (first
  | (go_at_call 115;(refine(BF (m:=⟨zV m.s,m.v,m.cs⟩) ⟨_,_,_,_,f.o.1⟩ Y.o O u.o y.o ay t.o).mono ?_)
     rintro e az ⟨am,τ1,_,_,_,_,_,rfl,M,aq,ax,j,D⟩;have ar:i.toNat<l.length:=by have:=t.o;omega
     obtain⟨x,d⟩:∃x,l[i.toNat]?=some x:=⟨_,Dz ar⟩
     have aF:az.cell? (am,i.toNat)=some (.int .i64 x):=(Du j i.toNat).trans (by simp[d]);have H:l.getD i.toNat 0=x:=by rw[Yl,d];rfl
     have aH:=zB j;have Z:=C2 (fT x) (by obtain⟨_,ap⟩:=f.o.1.arr;obtain⟨_,_,_,_,_,_,ao,_⟩:=ap.at u.o y.o;exact ao x (Yc d));have V:=U M;have R:=U D;have T:=U H
     clear M aq ax j D d H)
  | (go_at_call 97;(refine(yP (m:=⟨zV m.s,q,m.cs⟩) ⟨_,_,_,_,V.o⟩ x Z.o Xx).mono ?_);rintro e _ ⟨rfl,N,E⟩
     have X:=U N;have S:=U E
     clear N E))
 go_end0
 exact⟨rfl,T.o▸X.o,(f.o.2.trans R.o).trans S.o⟩
theorem x8(Z:MW G τ w m){td:C3}{tc:List Ex}(u:pR G.B w v (.mk 6 op n td tc)){i:Int}(D:m.v=q++[i])(_:q.length<=1000000000)(y:zZ G.p.wa td=some k)(A:m.s.arr[k]?=some l)(ae:td.size<=maxLen)(x:¬(0<=i/\i<(l.length:Int)))(ad:m.s.cost+1+m.s.fuel<=1000000000):
 Cz 94 #[(G.b,0),v] w (yc G w none (kR (zV m.s) 3)):=by
 obtain⟨g,o,rfl,_,j,r,X,t,_,_⟩:=u.cells;obtain⟨vi,vv,pa,vo,a⟩:=Z;have am:=a.lt;have ai:=a.hB;have aj:=a.hBb;have al:g<w.heap.size:=O
 have ab:g≠G.b:=O
 have an:G.b≠g:=O
 obtain⟨⟨J,K,L,M,N,P,Q,R,S,T⟩,V⟩:=zD a.box;have C:=a.pay ad;have ao:IntKind.i64.wrap ((m.s.cost:Int)+1)=(m.s.cost:Int)+1:=Un
 have f:=U C;have z:=fun i=>(Dw w ⟨G.b,8,none⟩ (.int .i64 ((m.s.cost:Int)+1)) i)
 have d:(w.setCell (G.b,8) (((m.s.cost:Int)+1):Int)).heap.size=w.heap.size:=Uk
 have c:∀i,(w.setCell (G.b,8) (((m.s.cost:Int)+1):Int)).cell? ⟨g,i,none⟩=w.cell? ⟨g,i,none⟩:=fun i=>D6 (z g ab)
 have af:(w.setCell (G.b,8) (((m.s.cost:Int)+1):Int)).cell? (g,o)=some (.int .i64 6):=(c _).trans j;have ag:(w.setCell (G.b,8) (((m.s.cost:Int)+1):Int)).cell? (g,o+1)=some (.int .i64 op):=(c _).trans r;have ah:(w.setCell (G.b,8) (((m.s.cost:Int)+1):Int)).cell? (g,o+3)=some (.string td):=(c _).trans t;have I:=U D;have F:=U y;have H:=U A;have E:=U x;clear D y A x;clear a u C z c;go_enter func94,ntmps94;go_upto_region 13 with fail;have aq:=Dv d;have ap:=Dv d.symm;generalize w.setCell (G.b,8) (((m.s.cost:Int)+1):Int)=W at *;clear d J K L M N P Q R S T V j r X t;have ak:g<W.heap.size:=O
 go_wp2_with (first
  |(go_at_call 115;(refine(F9 (m:=⟨zV m.s,m.v,m.cs⟩) ⟨_,_,_,_,f.o.1⟩ I.o O F.o H.o ae E.o).mono ?_);rintro e _ ⟨rfl,aa,Y⟩;exact⟨rfl,rfl,aa,f.o.2.trans Y⟩))
theorem GX(Z:MW G τ w m){td:C3}{tc:List Ex}(u:pR G.B w v (.mk 7 op n td tc))(D:m.v=q++l)(_:q.length<=1000000000)(x:jU G.p td=some fu)(z:l.length=fu.params.length)(ad:td.size<=maxLen)(ab:m.s.cost+1+m.s.fuel<=1000000000):
 Cz 94 #[(G.b,0),v] w (g6 G w ⟨zV m.s,q,⟨gF fu,0,fN fu l,[]⟩::m.cs⟩ (.tuple #[])):=by
 obtain⟨g,o,rfl,_,j,k,Y,r,_,_⟩:=u.cells;obtain⟨vi,vv,pa,vo,a⟩:=Z;have al:=a.lt;have ah:=a.hB;have ai:=a.hBb;have ak:g<w.heap.size:=O
 have aa:g≠G.b:=O
 have am:G.b≠g:=O
 obtain⟨⟨K,L,M,N,P,Q,R,S,T,V⟩,X⟩:=zD a.box;have C:=a.pay ab;have an:IntKind.i64.wrap ((m.s.cost:Int)+1)=(m.s.cost:Int)+1:=Un
 have f:=U C;have y:=fun i=>(Dw w ⟨G.b,8,none⟩ (.int .i64 ((m.s.cost:Int)+1)) i)
 have d:(w.setCell (G.b,8) (((m.s.cost:Int)+1):Int)).heap.size=w.heap.size:=Uk
 have c:∀i,(w.setCell (G.b,8) (((m.s.cost:Int)+1):Int)).cell? ⟨g,i,none⟩=w.cell? ⟨g,i,none⟩:=fun i=>D6 (y g aa)
 have ae:(w.setCell (G.b,8) (((m.s.cost:Int)+1):Int)).cell? (g,o)=some (.int .i64 7):=(c _).trans j;have af:(w.setCell (G.b,8) (((m.s.cost:Int)+1):Int)).cell? (g,o+1)=some (.int .i64 op):=(c _).trans k;have ag:(w.setCell (G.b,8) (((m.s.cost:Int)+1):Int)).cell? (g,o+3)=some (.string td):=(c _).trans r;have J:=U D;have F:=U x;have H:=U z;clear D x z;clear a u C y c;go_enter func94,ntmps94;go_upto_region 15 with fail;have ap:=Dv d;have ao:=Dv d.symm;generalize w.setCell (G.b,8) (((m.s.cost:Int)+1):Int)=W at *;clear d K L M N P Q R S T V X j k Y r;have aj:g<W.heap.size:=O
 go_wp2_with (first
  | (go_at_call 69;(refine(BO (m:=⟨zV m.s,m.v,m.cs⟩) ⟨_,_,_,_,f.o.1⟩ J.o O F.o H.o ad).mono ?_);rintro e _ ⟨rfl,A,t⟩
     have I:=U A;have E:=U t
     clear A t))
 go_end0
 exact⟨rfl,I.o,f.o.2.trans E.o⟩
theorem q5(T:MW G τ w m){td:C3}{tc:List Ex}(q:pR G.B w v (.mk 8 op n td tc)){z:List Int}(r:m.s.inp=x::z)(S:m.v.length<=2000000000)(X:m.s.cost+1+m.s.fuel<=1000000000):
 Cz 94 #[(G.b,0),v] w (g6 G w ⟨{ zV m.s with inp:=z },m.v++[x],m.cs⟩ (.tuple #[])):=by
 obtain⟨g,o,rfl,_,j,k,R,l,_,_⟩:=q.cells;obtain⟨vi,vv,pa,vo,a⟩:=T;have ag:=a.lt;have ab:=a.hB;have ad:=a.hBb;have af:g<w.heap.size:=O
 have V:g≠G.b:=O
 have ah:G.b≠g:=O
 obtain⟨⟨E,F,H,I,J,K,L,M,N,P⟩,Q⟩:=zD a.box;have y:=a.pay X;have ai:IntKind.i64.wrap ((m.s.cost:Int)+1)=(m.s.cost:Int)+1:=Un
 have f:=U y;have t:=fun i=>(Dw w ⟨G.b,8,none⟩ (.int .i64 ((m.s.cost:Int)+1)) i)
 have d:(w.setCell (G.b,8) (((m.s.cost:Int)+1):Int)).heap.size=w.heap.size:=Uk
 have c:∀i,(w.setCell (G.b,8) (((m.s.cost:Int)+1):Int)).cell? ⟨g,i,none⟩=w.cell? ⟨g,i,none⟩:=fun i=>D6 (t g V)
 have Y:(w.setCell (G.b,8) (((m.s.cost:Int)+1):Int)).cell? (g,o)=some (.int .i64 8):=(c _).trans j;have Z:(w.setCell (G.b,8) (((m.s.cost:Int)+1):Int)).cell? (g,o+1)=some (.int .i64 op):=(c _).trans k;have aa:(w.setCell (G.b,8) (((m.s.cost:Int)+1):Int)).cell? (g,o+3)=some (.string td):=(c _).trans l;have C:=U r;clear r;clear a q y t c;go_enter func94,ntmps94;go_upto_region 17 with fail;have ak:=Dv d;have aj:=Dv d.symm;generalize w.setCell (G.b,8) (((m.s.cost:Int)+1):Int)=W at *;clear d E F H I J K L M N P Q j k R l;have ae:g<W.heap.size:=O
 go_wp2_with (first
  | (go_at_call 116;(refine(N6 (m:=⟨zV m.s,m.v,m.cs⟩) ⟨_,_,_,_,f.o.1⟩ C.o S).mono ?_);rintro e _ ⟨rfl,u,p⟩
     have D:=U u;have A:=U p
     clear u p))
 go_end0
 exact⟨rfl,D.o,f.o.2.trans A.o⟩
theorem t9(M:MW G τ w m){td:C3}{tc:List Ex}(p:pR G.B w v (.mk 8 op n td tc))(q:m.s.inp=[])(Q:m.s.cost+1+m.s.fuel<=1000000000):
 Cz 94 #[(G.b,0),v] w (yc G w none (kR (zV m.s) 4)):=by
 obtain⟨g,o,rfl,_,j,k,K,l,_,_⟩:=p.cells;obtain⟨vi,vv,pa,vo,a⟩:=M;have aa:=a.lt;have V:=a.hB;have X:=a.hBb;have Z:g<w.heap.size:=O
 have P:g≠G.b:=O
 have ab:G.b≠g:=O
 obtain⟨⟨x,y,z,A,C,D,E,F,H,I⟩,J⟩:=zD a.box;have t:=a.pay Q;have ad:IntKind.i64.wrap ((m.s.cost:Int)+1)=(m.s.cost:Int)+1:=Un
 have f:=U t;have r:=fun i=>(Dw w ⟨G.b,8,none⟩ (.int .i64 ((m.s.cost:Int)+1)) i)
 have d:(w.setCell (G.b,8) (((m.s.cost:Int)+1):Int)).heap.size=w.heap.size:=Uk
 have c:∀i,(w.setCell (G.b,8) (((m.s.cost:Int)+1):Int)).cell? ⟨g,i,none⟩=w.cell? ⟨g,i,none⟩:=fun i=>D6 (r g P)
 have R:(w.setCell (G.b,8) (((m.s.cost:Int)+1):Int)).cell? (g,o)=some (.int .i64 8):=(c _).trans j;have S:(w.setCell (G.b,8) (((m.s.cost:Int)+1):Int)).cell? (g,o+1)=some (.int .i64 op):=(c _).trans k;have T:(w.setCell (G.b,8) (((m.s.cost:Int)+1):Int)).cell? (g,o+3)=some (.string td):=(c _).trans l;have u:=U q;clear q;clear a p t r c;go_enter func94,ntmps94;go_upto_region 17 with fail;have af:=Dv d;have ae:=Dv d.symm;generalize w.setCell (G.b,8) (((m.s.cost:Int)+1):Int)=W at *;clear d x y z A C D E F H I J j k K l;have Y:g<W.heap.size:=O
 go_wp2_with (first
  |(go_at_call 116;(refine(SS (m:=⟨zV m.s,m.v,m.cs⟩) ⟨_,_,_,_,f.o.1⟩ u.o).mono ?_);rintro e _ ⟨rfl,N,L⟩;exact⟨rfl,rfl,N,f.o.2.trans L⟩))
