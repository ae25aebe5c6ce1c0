import Derived.Test.YthcmenajdcbnnaaGreatDoorAmTyRk
set_option linter.unusedSimpArgs false
set_option linter.unusedVariables false
set_option maxRecDepth 100000
set_option maxHeartbeats 99000000
namespace Go.Proofs.YthcmenajdcbnnaaGreatDoor
open Go.RowKit Tryz
theorem Qk{p:Prop}(h:p:=by
 simp only[D2,decide_eq_true_eq]at a;rw[vU a.1.1.2];simp only[Dr,D1,D5]
 omega):p:=h
theorem Ql{p:Prop}(h:p:=by
 obtain⟨_,_,_,a⟩:=qd a;injection a with a _;rw[<-a,k6,fU]
 omega):p:=h
variable{op n a x:Int}{s:C2}{l b q:List Int}{d k ln B j:Nat}{p:Pr}{f fu:Fu}{r:List fH}{w:C3}{v:C4}{τ:Nat->Lb}{G:Gm}{m:Vm}
def yn:List Ex->Nat
 |[]=>0
 |e::r=>(ye e).length+yn r
theorem tV:∀(l:List Ex),yn l<=(yA ((g1 l).map (·.2.2))).length
 |[]=>D0 _
 |[x]=>by rw[g1,g1];show(ye x).length+0<=(ye x).length;omega
 | x::y::r=>by
   have h:=tV (y::r);have e:yA ((g1 (x::y::r)).map (·.2.2))=ye x++44::32::yA ((g1 (y::r)).map (·.2.2)):=rfl;rw[e,yn,Dr,D1,D1];omega
theorem oT(lev:Int)(c:Int×Int×List UInt8):c.2.2.length<=(wN lev c).length:=by
 unfold wN;split
 .simp
  omega
 .exact D0 _
theorem TG(_:20<=op)(_:op<=22):1<=(xN op).data.toList.length:=by
 have:op=20\/op=21\/op=22:=O
 rcases this with rfl|rfl|rfl<;>decide
theorem OF(n:Int)(_:0<=n):1<=(Lib.itoa n).length:=by
 obtain⟨u,rfl⟩:∃u:Nat,n=(u:Int):=⟨n.toNat,O⟩
 unfold Lib.itoa;rw[Dp O];rw[Lib.decDigits];split
 .exact D0 _
 .rw[Dr,D8]
  omega
theorem X3(a:uk s=true):1<=s.data.toList.length:=by
 unfold uk xG at a;simp only[D2]at a;have b:=a.1.1.1.1;cases hs:s.data.toList with
 |nil=>rw[hs]at b;cases b
 |cons x r=>rw[D1];omega
mutual
theorem TH:∀(e:Ex) (m:Nat),xw e m=true->zy e<=2*(ye e).length
 | .mk k op n td tc,m,h=>by
   rw[kB,D2,D2]at h;have i:=oU tc (m-1) h.2;have c:=h.1.2;rw[zy,ye];unfold zl at c;unfold QK;by_cases j:k=1
   .rw[Dq j]at c ⊢
    simp only[D2,decide_eq_true_eq]at c;have:tc=[]:=List.length_eq_zero_iff.1 c.2;subst this;have:=OF n c.1.1.1;rw[zH];omega
   rw[Dp j]at c ⊢;by_cases l:k=2
   .rw[Dq l]at c ⊢
    simp only[D2,decide_eq_true_eq]at c;have:tc=[]:=List.length_eq_zero_iff.1 c.2;subst this;rw[zH];unfold ZF;split
    .show 0+2<=2*4;omega
    .show 0+2<=2*5;omega
   rw[Dp l]at c ⊢;by_cases o:k=3
   .rw[Dq o]at c ⊢
    simp only[D2,decide_eq_true_eq]at c;have:tc=[]:=List.length_eq_zero_iff.1 c.2;subst this;have:=X3 c.1.1.1;rw[zH];omega
   rw[Dp o]at c ⊢;by_cases p:k=4
   .rw[Dq p]at c ⊢
    simp only[D2,decide_eq_true_eq]at c;obtain⟨a,rfl⟩:=List.length_eq_one_iff.1 c.2;have e:L9 (g1 [a]) 0=(a.kind,a.op,ye a):=rfl;rw[yn,yn]at i;split
    .rw[e]
     simp only[Dr,D1];omega
    .rename_i t
     have f:=TG c.1.1.1.1 O;have d:=oT 11 (L9 (g1 [a]) 0);rw[e]at d;rw[e,Dr];have d:(ye a).length<=(wN 11 (a.kind,a.op,ye a)).length:=d;omega
   rw[Dp p]at c ⊢;by_cases f:k=5
   .rw[Dq f]at c ⊢
    simp only[D2,decide_eq_true_eq]at c
    obtain⟨a,b,rfl⟩:∃a b,tc=[a,b]:=by
     match tc,c.2 with
     |[a,b],_=>exact⟨a,b,rfl⟩
    have r:L9 (g1 [a,b]) 0=(a.kind,a.op,ye a):=rfl;have s:L9 (g1 [a,b]) 1=(b.kind,b.op,ye b):=rfl;rw[yn,yn,yn]at i;have d:(ye a).length<=(wN (kD op) (a.kind,a.op,ye a)).length:=oT (kD op) (a.kind,a.op,ye a);have g:(ye b).length<=(wN (kD op+1) (b.kind,b.op,ye b)).length:=oT (kD op+1) (b.kind,b.op,ye b);rw[r,s];simp only[Dr,D1];omega
   rw[Dp f]at c ⊢;by_cases d:k=6
   .rw[Dq d]at c ⊢
    simp only[D2,decide_eq_true_eq]at c;obtain⟨a,rfl⟩:=List.length_eq_one_iff.1 c.2;have e:L9 (g1 [a]) 0=(a.kind,a.op,ye a):=rfl;rw[yn,yn]at i;rw[e];simp only[Dr,D1];omega
   rw[Dp d]at c ⊢;by_cases g:k=7
   .rw[Dq g]
    have:=tV tc;simp only[Dr,D1];omega
   rw[Dp g]at c ⊢;by_cases q:k=8
   .rw[Dq q]at c
    simp only[D2,decide_eq_true_eq]at c;have:tc=[]:=List.length_eq_zero_iff.1 c.2;subst this;rw[zH];show 0+2<=2*6;omega
   .rw[Dp q]at c
    cases c
theorem oU:∀(l:List Ex) (m:Nat),zx l m=true->zH l<=2*yn l
 |[],_,_=>D0 _
 | e::r,m,h=>by
   rw[qq,D2]at h;have a:=TH e m h.1;have b:=oU r m h.2;rw[zH,yn];omega
end
theorem vU{tc:List Ex}(h:tc.length=1):yn tc=(j6 tc 0).length:=by
 obtain⟨a,rfl⟩:=List.length_eq_one_iff.1 h;show(ye a).length+0=(ye a).length;omega
theorem OG{tc:List Ex}(h:tc.length=2):yn tc=(j6 tc 0).length+(j6 tc 1).length:=by
 match tc,h with
 |[a,b],_=>
   show(ye a).length+((ye b).length+0)=(ye a).length+(ye b).length;omega
theorem JA{l:List St}{f:Nat->Nat}{n:Nat}(_:f d<=n)(_:f (d+1)<=n):lB l f d<=n+2:=by
 unfold lB;split<;>omega
theorem OH{k g:Int}{td:C2}{tc:List Ex}{b c:Nat}{q:Bool}(a:zn k g td tc.length b c q=true)(o:¬k=6)(p:¬k=7):yn tc+1<=(yB k g td tc).length/\(k=4\/k=5->yn tc+6<=(yB k g td tc).length):=by
 unfold zn at a;unfold yB;by_cases i:k=1
 .rw[Dq i]at a ⊢
  exact Qk
 rw[Dp i]at a ⊢;by_cases l:k=2
 .rw[Dq l]at a ⊢
  exact Qk
 rw[Dp l]at a ⊢;by_cases m:k=3
 .rw[Dq m]at a ⊢
  simp only[D2,decide_eq_true_eq]at a;rw[OG a.1.1.2];simp only[Dr,D1,D5];omega
 rw[Dp m]at a ⊢;by_cases n:k=4
 .rw[Dq n]at a ⊢
  simp only[D2,decide_eq_true_eq]at a;rw[vU a.2];simp only[Dr,D1,D5];omega
 rw[Dp n]at a ⊢;by_cases e:k=5
 .rw[Dq e]at a ⊢
  simp only[D2,decide_eq_true_eq]at a;rw[vU a.1.2];simp only[Dr,D1,D5];omega
 rw[Dp e,Dp O]at a;rw[Dp e,Dp o,Dp p];by_cases d:k=8
 .rw[Dq (Or.inl d)]at a
  rw[Dq d];exact Qk
 by_cases f:k=9
 .rw[Dq (Or.inr f)]at a
  rw[Dp d,Dq f];exact Qk
 rw[Dp O]at a;rw[Dp d,Dp f];by_cases j:k=10
 .rw[Dq j]at a
  simp only[D2,decide_eq_true_eq]at a;rw[vU a.1.1.1.2];simp only[Dr,D1,D5];omega
 .rw[Dp j]at a
  cases a
mutual
theorem TI:∀(t:St) (m d a:Nat),uK t m=true->d+m<=101->xa t d<=104*(P0 t a).length
 | .mk k ty td tc tg th,m,d,a,h,hd=>by
   rw[jn]at h;simp only[D2,decide_eq_true_eq]at h;have y:=oU tc 100 h.1.1.2;have q:=xj tg (m-1) d (a+1) h.1.2 O;have r:=xj tg (m-1) (d+1) (a+1) h.1.2 O;have s:=xj tg (m-1) 0 (a+1) h.1.2 O;have u:=xj tg (m-1) 1 (a+1) h.1.2 O;have o:=xj th (m-1) d (a+1) h.2 O;have p:=xj th (m-1) (d+1) (a+1) h.2 O;have v:lB tg (fJ tg) d<=104*(xO tg (a+1)).length+2:=JA q r;have w:lB tg (fJ tg) 0<=104*(xO tg (a+1)).length+2:=JA s u;have x:lB th (fJ th) d<=104*(xO th (a+1)).length+2:=JA o p;rw[xa,P0];by_cases f:k=6
   .rw[Dp O,Dp O,Dq (Or.inl f)]
    subst f;have e:(yB 6 ty td tc).length=6:=rfl;simp only[Dr,D1];omega
   by_cases g:k=7
   .rw[Dp O,Dp O,Dq (Or.inr g)]
    subst g;have e:(yB 7 ty td tc).length=9:=rfl;simp only[Dr,D1];omega
   have j:=OH h.1.1.1.2 f g;by_cases b:k=4
   .rw[Dq b,Dq b]
    have l:=j.2 (Or.inl b);by_cases i:th.length=0
    .have n:th=[]:=List.length_eq_zero_iff.1 i
     have z:lB th (fJ th) d=0:=by rw[n];rfl
     rw[Dq i];simp only[Dr,D1,D5];omega
    .rw[Dp i]
     simp only[Dr,D1,D5];omega
   rw[Dp b,Dp b];by_cases c:k=5
   .rw[Dq c,Dq c]
    have l:=j.2 (Or.inr c);simp only[Dr,D1,D5];omega
   rw[Dp c,Dp c,Dp O];simp only[Dr,D1,D5];omega
theorem xj:∀(l:List St) (m d a:Nat),fL l m=true->d+m<=101->fJ l d<=104*(xO l a).length
 |[],_,_,_,_,_=>Dx _
 | t::r,m,d,a,h,hd=>by
   rw[ko,D2]at h;have b:=TI t m d a h.1 hd;have c:=xj r m d a h.2 hd;rw[fJ,xO,Dr];omega
end
theorem X4(d:f∈p.funcs):(xO f.body 1).length<=(KG p).length:=by
 have e:(xO f.body 1).length<=(V6 f).length:=by
  unfold V6;simp only[Dr,D1];omega
 have g:(V6 f).length<=((p.funcs.map V6).flatten).length:=by
  obtain⟨a,b,c⟩:=List.append_of_mem d;rw[c];simp only[Yj,Y5,List.flatten_append,List.flatten_cons,Dr];omega
 unfold KG;rw[Dr];omega
theorem TJ(b:f5 p=true)(c:f∈p.funcs):fJ f.body 0<=104*(KG p).length:=by
 unfold f5 at b;rw[D2]at b;have a:=List.all_eq_true.1 b.2 f c;unfold yh at a;simp only[D2]at a;have d:=xj f.body 100 0 1 a.2 O;have e:=X4 c;omega
structure GD (p:Pr):Prop where
 ok:f5 p=true
 sz:KR p
 n1:p.wa.length<=1000000
 n2:p.funcs.length<=1000000
 cn:∀f∈p.funcs,f.params.length+fU f.body<=1000000000
 ln:∀f∈p.funcs,fJ f.body 0<=1000000000
theorem qd{α β:Type}{x:PR α}{f:α->List fH->PR β}{b:β}(d:x.bind f=.ok b r):∃a c,x=.ok a c/\f a c=.ok b r:=by
 cases x with
 |ok a c=>exact⟨a,c,rfl,d⟩
 |bad c=>cases d
 |deep c=>cases d
 |o=>cases d
theorem kd{α:Type}{l:List fH}{x:PR α}{a:α}(h:zm k l x)(e:x=.ok a r):qC r/\r.length+k<=l.length:=by
 subst e;exact h.2
theorem oV{α:Type}{x:PR α}{a:α}(e:vI x=.ok a r):∃d,x=.ok a d:=by
 obtain⟨b,d,f,g⟩:=qd e;obtain⟨_,_,_,c⟩:=qd g;injection c with c _;exact⟨d,c▸f⟩
theorem X5{n:Nat}{l:List fH}{s:St}(h:q2 n l=.ok s r):k6 s=1:=by
 unfold q2 at h;obtain⟨_,_,_,h⟩:=qd h;split at h
 .obtain⟨_,_,_,h⟩:=qd h
  injection h with h _;rw[<-h,k6,fU]
 .split at h
  .obtain⟨_,_,_,h⟩:=qd h
   obtain⟨_,_,_,h⟩:=qd h;obtain⟨_,_,_,h⟩:=qd h;obtain⟨_,_,_,h⟩:=qd h;injection h with h _;rw[<-h,k6,fU]
  .obtain⟨_,_,_,h⟩:=qd h
   obtain⟨_,_,_,h⟩:=qd h;injection h with h _;rw[<-h,k6,fU]
theorem LF:∀(a b:List St),fU (a++b)=fU a+fU b
 |[],b=>by rw[Cm,fU];omega
 |s::r,b=>by rw[Yv,fU,fU,LF r b];omega
theorem GE:∀n:Nat,(∀d l s r,qC l->pS n d l=.ok s r->k6 s+r.length<=l.length)/\(∀d e t l s r,qC l->q3 n d e t l=.ok s r->k6 s+r.length<=l.length+1+fU t)/\(∀d l b r,qC l->pB n d l=.ok b r->fU b+r.length<=l.length)/\(∀d tk l b r,qC l->nN n d tk l=.ok b r->fU b+r.length<=l.length+fU tk)
 |0=>⟨fun d l s r _ a=>(by rw[pS]at a;cases a),fun d e t l s r _ a=>(by rw[q3]at a;cases a),fun d l b r _ a=>(by rw[pB]at a;cases a),fun d tk l b r _ a=>(by rw[nN]at a;cases a)⟩
 | n+1=>by
   obtain⟨z,y,q,u⟩:=GE n;refine⟨fun d l s r c a=>?_,fun d e t l s r c a=>?_,fun d l b r c a=>?_,fun d tk l b r c a=>?_⟩
   .have B:=(kd (q5 (n:=n+1) (d:=d) c) a).2
    rw[pS]at a;split at a
    .cases a
    split at a
    .obtain⟨g,a⟩:=oV a
     obtain⟨_,_,_,a⟩:=qd a;obtain⟨_,_,_,a⟩:=qd a;obtain⟨_,_,_,a⟩:=qd a;exact Ql
    split at a
    .rename_i k
     obtain⟨e,g,f,a⟩:=qd a;obtain⟨t,A,m,a⟩:=qd a;have j:=zJ.sign c k;obtain⟨o,x⟩:=kd (yp j.2.1) f;have v:=q _ _ _ _ o m;have w:=(kd (iW o) m).1;have:=y _ _ _ _ _ _ w a;have:=j.2.2;omega
    split at a
    .rename_i k
     obtain⟨e,g,f,a⟩:=qd a;obtain⟨t,A,m,a⟩:=qd a;have j:=zJ.sign c k;obtain⟨o,x⟩:=kd (yp j.2.1) f;have v:=q _ _ _ _ o m;injection a with a i;have:=j.2.2;rw[<-a,<-i,k6,fU];omega
    split at a
    .obtain⟨g,a⟩:=oV a
     injection a with a _;rw[<-a,k6,fU];omega
    split at a
    .obtain⟨g,a⟩:=oV a
     injection a with a _;rw[<-a,k6,fU];omega
    split at a
    .obtain⟨g,a⟩:=oV a
     exact Ql
    split at a
    .obtain⟨g,a⟩:=oV a
     exact Ql
    .obtain⟨g,a⟩:=oV a
     have:=X5 a;omega
   .rw[q3]at a
    split at a
    .rename_i k
     obtain⟨D,g,f,a⟩:=qd a;have j:=zJ.sign c k;have:=q _ _ _ _ j.2.1 f;have:=j.2.2;injection a with a i;rw[<-a,<-i,k6];omega
    .injection a with a i
     rw[<-a,<-i,k6,fU];omega
   .rw[pB]at a
    obtain⟨_,g,f,a⟩:=qd a;obtain⟨p,C⟩:=kd (zL c _) f;have:=u _ _ _ _ _ p a;rw[fU]at this;omega
   .rw[nN]at a
    split at a
    .rename_i k
     have j:=(zJ.sign c k).2.2;injection a with a i;rw[<-a,<-i];omega
    .obtain⟨s,g,f,a⟩:=qd a
     have m:=z _ _ _ _ c f;have p:=(kd (q5 c) f).1;have i:=u _ _ _ _ _ p a;rw[LF,fU,fU]at i;omega
theorem GF:∀(n:Nat) (tk:List Pa) (l:List fH) (ps:List Pa) (r:List fH),qC l->pY n tk l=.ok ps r->ps.length+r.length<=l.length+tk.length
 |0,tk,l,ps,r,_,a=>by rw[pY]at a;cases a
 | n+1,tk,l,ps,r,hl,a=>by
   rw[pY]at a;obtain⟨t,p,e,a⟩:=qd a;obtain⟨i,k⟩:=kd (xp hl) e;obtain⟨s,q,f,a⟩:=qd a;obtain⟨c,m⟩:=kd (jI i 1 Uf) f;split at a
   .rename_i j
    have d:=zJ.sign c j;have b:=GF n _ _ _ _ d.2.1 a;have:=d.2.2;rw[Dr,D8]at b;omega
   .obtain⟨_,u,b,a⟩:=qd a
    obtain⟨_,o⟩:=kd (zL c _) b;injection a with a g;rw[<-a,<-g,Dr,D8];omega
theorem zak{n:Nat}{t:Int}{l:List fH}(g:qC l)(c:o6 n t s l=.ok f r):f.params.length+fU f.body+r.length<=l.length:=by
 unfold o6 at c;obtain⟨ps,o,a,c⟩:=qd c;have k:=(kd (rV g) a).1;obtain⟨b,p,i,c⟩:=qd c;have q:=(GE n).2.2.1 _ _ _ _ k i
 have u:ps.length+o.length<=l.length:=by
  unfold V8 at a;obtain⟨_,w,d,a⟩:=qd a;obtain⟨e,v⟩:=kd (zL g _) d;split at a
  .rename_i m
   have:=(zJ.sign e m).2.2;injection a with a j;rw[<-a,<-j,D5];omega
  .have:=GF _ _ _ _ _ e a
   rw[D5]at this;omega
 injection c with c d;rw[<-c,<-d];show ps.length+fU b+p.length<=l.length;omega
def k7:List Fu->Nat
 |[]=>0
 |f::r=>1+f.params.length+fU f.body+k7 r
theorem GG:∀(a b:List Fu),k7 (a++b)=k7 a+k7 b
 |[],b=>by rw[Cm,k7];omega
 |s::r,b=>by rw[Yv,k7,k7,GG r b];omega
theorem GH:∀l:List Fu,l.length<=k7 l
 |[]=>Dx _
 |f::r=>by have:=GH r;rw[k7,D1];omega
theorem GI:∀{l:List Fu}{f:Fu},f∈l->f.params.length+fU f.body<=k7 l
 | g::r,f,h=>by
   rw[k7];rcases List.mem_cons.1 h with rfl|h
   .omega
   .have:=GI h;omega
theorem tW:∀(n:Nat) (p:Pr) (l:List fH) (q:Pr) (r:List fH),qC l->k2 n p l=.ok q r->q.wa.length+k7 q.funcs+r.length<=l.length+p.wa.length+k7 p.funcs
 |0,p,l,q,r,_,b=>by rw[k2]at b;cases b
 | n+1,p,l,q,r,hl,b=>by
   rw[k2]at b;split at b
   .injection b with b e
    rw[<-b,<-e];omega
   .obtain⟨t,z,e,b⟩:=qd b
    obtain⟨m,w⟩:=kd (xp hl) e;obtain⟨s,A,k,b⟩:=qd b;obtain⟨g,x⟩:=kd (jI m 1 Uf) k;split at b
    .rename_i o
     have j:=zJ.sign g o.2.2;obtain⟨a,u,d,b⟩:=qd b;obtain⟨i,y⟩:=kd (y4 j.2.1) d;have c:=tW n _ _ _ _ i b;have:=j.2.2;dsimp only at c;rw[Dr,D8]at c;omega
    .obtain⟨f,u,d,b⟩:=qd b
     have v:=zak g d;have i:=(kd (hN g) d).1;have c:=tW n _ _ _ _ i b;dsimp only at c;rw[GG,k7,k7]at c;omega
theorem vV(a:uk s=true):s.size<=maxLen:=by
 unfold uk xG at a;simp only[D2,decide_eq_true_eq]at a;have b:s.size<=20:=by simpa using a.1.1.1.2
 unfold maxLen;omega
theorem TK(c:f5 p=true):KR p:=by
 unfold f5 at c;rw[D2]at c;refine⟨fun a e=>?_,fun f g=>?_⟩
 .have b:=List.all_eq_true.1 c.1 a e
  unfold yg at b;rw[D2]at b;exact vV b.1
 .have b:=List.all_eq_true.1 c.2 f g
  unfold yh at b;simp only[D2]at b;refine⟨vV b.1.1.1.1,fun x i=>?_⟩;have d:=List.all_eq_true.1 b.1.2 x i;unfold ul at d;rw[D2]at d;exact vV d.1
theorem TL(a:yk s=(p,0,ln)):s.size<=100000/\∃c r,qF s.data.toList 1=(c,none)/\kW c=.ok p r/\f5 p=true:=by
 by_cases f:100000<s.size
 .rw[oR f]at a
  simp at a
 .cases hn:(qF s.data.toList 1).2 with
  |some l=>
    rw[DC O hn]at a;simp at a
  |none=>
    have b:=oS hn;rw[iM O b]at a;unfold I9 at a;cases hp:kW (qF s.data.toList 1).1 with
    |ok q r=>
      rw[hp]at a;dsimp only at a;split at a
      .rename_i d
       have e:q=p:=congrArg Prod.fst a;subst e;exact⟨O,_,r,b,hp,d⟩
      .simp at a
    |bad r=>rw[hp]at a;simp at a
    |deep r=>rw[hp]at a;simp at a
    |o=>
      have x:=yY (kJ _ _ _ _ Zr b);rw[hp]at x;exact x.elim
theorem OI{k:Int}(a:yk s=(p,k,ln))(c:k≠0):p=I8:=by
 by_cases d:100000<s.size
 .rw[oR d]at a
  exact(congrArg Prod.fst a).symm
 .cases hn:(qF s.data.toList 1).2 with
  |some l=>
    rw[DC O hn]at a;exact(congrArg Prod.fst a).symm
  |none=>
    have b:=oS hn;rw[iM O b]at a;unfold I9 at a;cases hp:kW (qF s.data.toList 1).1 with
    |ok q r=>
      rw[hp]at a;dsimp only at a;split at a
      .exact absurd (congrArg (fun x=>x.2.1) a).symm c
      .exact(congrArg Prod.fst a).symm
    |bad r=>rw[hp]at a;exact(congrArg Prod.fst a).symm
    |deep r=>rw[hp]at a;exact(congrArg Prod.fst a).symm
    |o=>rw[hp]at a;exact(congrArg Prod.fst a).symm
theorem OJ(g:yk s=(p,0,ln)):GD p:=by
 obtain⟨_,_,r,b,e,c⟩:=TL g;have i:=kJ _ _ _ _ Zr b;have l:=(ue _ _ _ _ Zr b).2;have o:s.data.toList.length=s.size:=Uh
 have a:=tW _ _ _ _ _ i e;rw[k7]at a;have n:([]:List Ar).length=0:=rfl;have m:=GH p.funcs;refine⟨c,TK c,?_,?_,fun f d=>?_,fun f d=>?_⟩
 .simp at a;omega
 .simp at a;omega
 .have:=GI d;simp at a;omega
 .have j:=TJ c d
  have k:=I7 b e;omega
theorem TM{a:C3}(h:Below B a w)(n:Nat):Below B a (w.drewN n):=h.trans ⟨rfl,rfl,rfl,D0 _,fun _ _=>rfl⟩
theorem OK{a:List Int}{c:Int}(d:a.take k=b.take k)(f:a[k]?=some x)(g:b[k]?=some c)(e:x=c):a.take (k+1)=b.take (k+1):=by
 rw[Yt,Yt,d,f,g,e]
theorem TN{a:List Int}{d:Int}(c:a[k]?=some x)(g:b[k]?=some d)(e:x≠d):decide (a=b)=false:=by
 refine decide_eq_false fun f=>e ?_
 rw[f,g]at c;injection c with c;exact c.symm
theorem TO{a:List Int}(d:a.length=b.length)(c:a.take a.length=b.take a.length):decide (a=b)=true:=by
 rw[Cj,d,Cj]at c;exact decide_eq_true c
theorem TP(B:Nat)(a b:List Int)(C D:C4)(z:Bool)(y:decide (a=b)=z)(w:C3)(_:B<=w.heap.size)(n:rB B w C a)(p:rB B w D b):
 Cy 30 #[C,D] w (Cv z w):=by
 obtain⟨_,c,rfl,_⟩:=n.form;obtain⟨_,_,rfl,_⟩:=p.form;have E:=U n;have F:=U p;have l:=U y;clear n p y;go_enter func30,ntmps30;by_cases i:a.length=b.length
 .have j:=U i
  have L:((a.length:Int) != (b.length:Int))=false:=by simp[i]
  clear i;go_wp2_with fail
  go_loopw [5] (fun iv wr=>∃k m:Nat,k<=a.length/\iv=.int .i64 (k:Int)/\a.take k=b.take k/\wr=w.drewN m) (fun iv _=>a.length-(intOf iv).toNat)
  case atStart=>exact⟨0,0,Dx _,rfl,rfl,rfl⟩
  case round=>
   obtain⟨k,m,_,rfl,v,rfl⟩:=hrel;have s:=U v;clear v;by_cases M:k<a.length
   .obtain⟨x,q⟩:∃e,a[k]?=some e:=⟨_,Dy M⟩
    obtain⟨f,r⟩:∃e,b[k]?=some e:=⟨_,Dy (by have:=j.o;omega)⟩
    obtain⟨g,o,rfl,_,_⟩:=E.o.cells q;obtain⟨G,_,rfl,_,_⟩:=F.o.cells r;have Q:k<b.length:=by have:=j.o;omega
    have N:g<w.heap.size:=O
    have P:G<w.heap.size:=O
    have t:=U q;have u:=U r;clear q r;by_cases d:x=f
    .have I:(x == f)=true:=by simp[d]
     have J:(x != f)=false:=by simp[d]
     go_wp2_with fail
     go_quiet (fail)
     go_wp2_with fail;go_roundw
     case rel=>exact⟨k+1,_,O,by go_num,OK s.o t.o u.o d,rfl⟩
     case measure=>simp[intOf];omega
    .have I:(x == f)=false:=by simp[d]
     have J:(x != f)=true:=by simp[d]
     go_wp2_with fail
     go_quiet (fail)
     go_wp2_with fail;go_ret;exact⟨zC (by rw[<-l.o,TN t.o u.o d]),TM (TM Zb _) _⟩
   .have K:k=a.length:=by omega
    subst K;go_wp2_with fail;go_ret;exact⟨zC (by rw[<-l.o,TO j.o s.o]),TM Zb _⟩
 .have L:((a.length:Int) != (b.length:Int))=true:=by simp;omega
  go_wp2_with fail;go_ret;exact⟨zC (by rw[<-l.o,decide_eq_false (fun H=>i (by rw[H]))]),D4 _ _⟩
theorem nB{e:TypeId}{j n:Nat}{k:List C4}(i:w.ownsRow B e j v n k):∀b m c,v=.slice b m c->m<=c:=by
 rintro b m c rfl;rcases i.2 with⟨a,_⟩|⟨g,_,_,a,_,_,_,_⟩
 .injection a with _ d f
  omega
 .injection a with _ d f
  omega
def GJ(B:Nat)(w:C3)(v:C4)(r:Int×Int×List Int×Nat×Nat):Prop:=
 ∃vo,v=.agg #[(r.1:Int),(r.2.1:Int),vo,((r.2.2.2.1:Int):Int),((r.2.2.2.2:Int):Int)]/\rB B w vo r.2.2.1/\∀A n c,vo=.slice A n c->n<=c
theorem GJ.below{a:Nat}{w':C3}{r:Int×Int×List Int×Nat×Nat}(b:GJ B w v r)(g:Below B w w')(f:B<=a):GJ a w' v r:=by
 obtain⟨vo,c,d,e⟩:=b;exact⟨vo,c,d.below g f,e⟩
end Go.Proofs.YthcmenajdcbnnaaGreatDoor
namespace Go.Proofs.YthcmenajdcbnnaaGreatDoor
open Go.RowKit Tryz Go.Maps
variable{op n a x:Int}{s:C2}{l b q:List Int}{d k ln B j:Nat}{p:Pr}{f fu:Fu}{r:List fH}{w:C3}{v:C4}{τ:Nat->Lb}{G:Gm}{m:Vm}
theorem BF:∀(vs:fG) (x:C2×Int) (s:C2),ja (vs++[x]) s=if x.1=s then some vs.length else ja vs s
 | [],x,s=>by
   show(match ja [] s with|some k=>some (k+1)|none=>if x.1=s then some 0 else none)=_;rfl
 | y::r,x,s=>by
   rw[Yv,ja,BF r x s];by_cases h:x.1=s
   .simp only[Dq h]
    rfl
   .simp only[Dp h]
    rfl
theorem yO{vs:fG}(h:ja vs s=some k):k<vs.length:=CX h
theorem GK(vs:fG)(tm:List Nat)(b:tm.length=vs.length)(x:C2×Int)(l:Nat)(s:C2):gD (vs++[x]) (tm++[l]) s=NT (gD vs tm) x.1 (.pointer (some ⟨l,0,none⟩)) s:=by
 unfold gD NT;rw[BF];by_cases a:x.1=s
 .rw[Dq a,Dq a.symm]
  dsimp only;rw[<-b,Yi Zr,Yy];rfl
 .rw[Dp a,Dp (fun e=>a e.symm)]
  dsimp only;cases he:ja vs s with
  |none=>rfl
  |some k=>
    dsimp only;rw[Yo (by have:=yO he;omega)]
theorem TQ{vs:fG}{tm:List Nat}{n:Nat}(s:C2)(_:n<=vs.length):gD (vs.take n) (tm.take n) s=gD (vs.take n) tm s:=by
 unfold gD;cases he:ja (vs.take n) s with
 |none=>rfl
 |some k=>
   have a:=yO he;rw[Yg]at a;dsimp only;rw[Y8,Dq O]
section
variable {G:Gm} {τ τ':Nat->Lb} {w w':C3}{m:Vm}{vi vv pa vo:C4}
theorem gC.relab(a:gC G τ w m vi vv pa vo)(e:Cx w w')(c:gO τ τ' w):gC G τ' w' m vi vv pa vo:=by
 have b:fF (fun k=>XN (τ k)) w w':=fF.wb _ e;have f:=e.mono a.hB;exact(a.step (X:=XN) (m':=m) b c id ⟨id,id⟩ ((e.block _ a.lt).trans a.box) (a.inp.below f Zr) (a.val.keep (X:=XN) b c id) (a.o.keep (X:=XN) b c id) (a.frs.keep (X:=XN) b c f ⟨id,fun d _=>⟨id,id,fun i=>⟨id,id⟩⟩⟩ Zr) (a.arr.keep (X:=XN) b c ⟨id,fun _=>id⟩) a.nv a.ni a.no a.lim).1
theorem gC.called(j:gC G τ w m vi vv pa vo){wr:C3}{q l:List Int}{a:Option Addr}{n c mp:Nat}(af:vv=.slice a n c)(z:m.v=q++l)(t:Cx w wr)(S:gO τ τ' w){fu:Fu}{td:C2}(V:jT G.p td=some fu){aj f:C4}(W:G.fv td=.agg #[aj,f])(_:l.length=fu.params.length)
 {tm:List Nat} (Y:tm.length=l.length) (y:fZ wr mp l.length (.pointer none) (gD (fN fu l) tm)) (aa:τ' mp=.vmap m.cs.length 0) (ab:w.heap.size<=mp) (R:∀i b x,tm[i]?=some b->l[i]?=some x->w.heap.size<=b/\τ' b=.cel m.cs.length i/\wr.heap[b]?=some (.cells #[(x:Int)] 3)):
 (∃τ,MW G τ (((wr.setCell (G.b,3) (a,q.length,c)).alloc (FSq f 0 mp (.slice none 0 0) pa)).setCell (G.b,4) (wr.heap.size,0)) ⟨m.s,q,⟨gE fu,0,fN fu l,[]⟩::m.cs⟩)/\
 Below G.B w (((wr.setCell (G.b,3) (a,q.length,c)).alloc (FSq f 0 mp (.slice none 0 0) pa)).setCell (G.b,4) (wr.heap.size,0)):=by
 have al:=j.lt;have e:=j.relab t S;have ak:=t.size;have r:=e.val;rw[af,z]at r;obtain⟨_,_,ag⟩:=r.form;injection ag with J K L;subst J L;rw[K]at r;obtain⟨C,N⟩:=e.wu (m':=⟨m.s,q,m.cs⟩) 3 (.slice a q.length c) (D3 e.box _) e.inp r.cut e.o e.frs rfl (fun n ad=>e.nv n (by rw[z];exact List.mem_append_left _ ad)) e.ni e.no e.lim;have A:(wr.setCell (G.b,3) (a,q.length,c)).heap.size=wr.heap.size:=Uk
 have D:Below (wr.setCell (G.b,3) (a,q.length,c)).heap.size (wr.setCell (G.b,3) (a,q.length,c)) ((wr.setCell (G.b,3) (a,q.length,c)).alloc (FSq f 0 mp (.slice none 0 0) pa)):=Zb.alloc Zr _;have d:=C.relab D (gO.lbl τ' _ (.frm m.cs.length) (by rw[A];exact D0 wr.heap.size));have ae:((wr.setCell (G.b,3) (a,q.length,c)).alloc (FSq f 0 mp (.slice none 0 0) pa)).heap[wr.heap.size]?=some (FSq f 0 mp (.slice none 0 0) pa):=by have:=Ds (wr.setCell (G.b,3) (a,q.length,c)) (FSq f 0 mp (.slice none 0 0) pa);rw[A]at this;exact this
 have E:∀k,w.heap.size<=k->k<wr.heap.size->((wr.setCell (G.b,3) (a,q.length,c)).alloc (FSq f 0 mp (.slice none 0 0) pa)).heap[k]?=wr.heap[k]?:=fun k _ X=>(D7 _ _ k (by rw[A];exact X)).trans (Dw wr _ _ k (by show k≠G.b;omega))
 obtain⟨_,_,hF⟩:=d.da;obtain⟨_,_,f1,_,f3⟩:=hF td fu V;rw[W]at f1;simp only[Value.agg.injEq,Array.mk.injEq,Cb,and_true]at f1;obtain⟨rfl,rfl⟩:=f1;have F:(fN fu l).length=l.length:=by unfold fN;rw[List.length_zip,Yh];omega
 have H:∀(i:Nat) (x:C2×Int),(fN fu l)[i]?=some x->l[i]?=some x.2:=fun i x g=>by
  unfold fN at g;rw[Cq]at g;exact g.2
 have T:HM G.B (SH τ' wr.heap.size (.frm m.cs.length)) ((wr.setCell (G.b,3) (a,q.length,c)).alloc (FSq f 0 mp (.slice none 0 0) pa)) (.pointer (some ⟨wr.heap.size,0,none⟩)) (⟨gE fu,0,fN fu l,[]⟩::m.cs):=by
  refine⟨wr.heap.size,pa,f,mp,.slice none 0 0,tm,[],rfl,⟨ae,zAb _ _ _,f3,by rw[Y];exact F.symm,fun i b x u g=>?_,⟨?_,?_⟩,rfl,Yp _ _ _ _,fun b u=>(by cases u),fun i m k Z=>(by cases Z),Uh⟩,d.frs⟩
  .obtain⟨ah,ai,I⟩:=R i b x.2 u (H i x g)
   have Q:=zB I;exact⟨(zAc τ' _ O).trans ai,(E b ah Q).trans I,j.nv x.2 (by rw[z];exact Y3 _ (Yc (H i x g)))⟩
  .exact(zAc τ' _ (by have:=y.lt;omega)).trans aa
  .rw[F]
   exact y.wd (E mp ab y.lt)
 obtain⟨M,P⟩:=d.wu (m':=⟨m.s,q,⟨gE fu,0,fN fu l,[]⟩::m.cs⟩) 4 (.pointer (some ⟨wr.heap.size,0,none⟩)) (D3 d.box _) d.inp d.val d.o T rfl d.nv d.ni d.no d.lim;exact⟨⟨_,_,_,_,_,M⟩,(((t.mono j.hB).trans N).trans (D.mono C.hB)).trans P⟩
end
theorem X6(w:C3):(zeroValue 120).run Tryz.prog w=.ok (.agg #[(),()]) w:=by kernel_rfl
abbrev OL(b a:C4):Obj:=.cells #[b,a] 120
theorem zal(a:f5 p=true)(d:f∈p.funcs):f.params.length<=8/\∀x∈f.params,x.name.size<=maxLen:=by
 refine⟨((H7 a) f d).1,fun x e=>?_⟩;unfold f5 at a;rw[D2,Y9,Y9]at a;have b:=a.2 f d;unfold yh at b;simp only[D2,decide_eq_true_eq,Y9]at b;have c:=b.1.2 x e;unfold ul at c;simp only[D2]at c;exact vV c.1
theorem HM.ptr{l:List Fr}(b:HM B τ w v l):∃p,v=.pointer p:=by
 cases l with
 |nil=>exact⟨_,b⟩
 |cons c r=>
   obtain⟨a,pa,_,mp,vo,tm,_,d,_⟩:=b;exact⟨_,d⟩
structure DD (w wr:C3) (τ τr:Nat->Lb) (d:Nat) (l:List Int) (fu:Fu) (mp j:Nat) (locs:List Nat):Prop where
 len:locs.length=j
 ext:gO τ τr w
 map:fZ wr mp j (.pointer none) (gD ((fN fu l).take j) locs)
 cell:∀i b x,locs[i]?=some b->l[i]?=some x->w.heap.size<=b/\τr b=.cel d i/\wr.heap[b]?=some (.cells #[(x:Int)] 3)
 lab:τr mp=.vmap d 0
theorem DD.next{wr W m:C3}{τr:Nat->Lb}{mp:Nat}{tm:List Nat}(c:DD w wr τ τr d l fu mp j tm)(_:w.heap.size<=wr.heap.size)(q:Cx wr W){x:Pa}(r:fu.params[j]?=some x)(n:l[j]?=some a)
 (A:fZ m mp (j+1) (.pointer none) (NT (gD ((fN fu l).take j) tm) x.name (.pointer (some ⟨W.heap.size,0,none⟩)))) (C:m.heap[W.heap.size]?=some (.cells #[(a:Int)] 3)) (D:fF (fun k=>k=mp) W m):
 DD w m τ (SH τr W.heap.size (.cel d j)) d l fu mp (j+1) (tm++[W.heap.size]):=by
 have M:=q.size;have L:=c.map.lt
 have E:(fN fu l).take (j+1)=(fN fu l).take j++[(x.name,a)]:=by
  have:(fN fu l)[j]?=some (x.name,a):=by
   unfold fN;rw[Cq,Yn,r];exact⟨rfl,n⟩
  rw[Yt,this];rfl
 have K:j<(fN fu l).length:=by
  unfold fN;have I:=(List.getElem?_eq_some_iff.1 r).1;have J:=(List.getElem?_eq_some_iff.1 n).1;rw[List.length_zip,Yh];omega
 have F:((fN fu l).take j).length=j:=Vt
 refine⟨by rw[Dr,c.len];rfl,fun k z=>(zAc τr _ O).trans (c.ext k z),A.congr fun s=>by rw[E];exact GK _ _ (by rw[c.len,F]) (x.name,a) _ s,fun i b H f g=>?_,(zAc τr _ O).trans c.lab⟩;rcases Ce i tm.length with o|o
 .rw[Yo o]at f
  obtain⟨G,p,t⟩:=c.cell i b H f g;have v:=zB t;have B:b≠mp:=fun e=>by rw[e,c.lab]at p;cases p
  exact⟨G,(zAc τr _ O).trans p,(D.block b O B).trans ((q.block b v).trans t)⟩
 .rw[Yi o]at f
  have u:i-tm.length=0:=by
   have:=(List.getElem?_eq_some_iff.1 f).1;simp at this;omega
  rw[u]at f;simp at f;subst f;have y:i=j:=by have:=c.len;omega
  subst y;rw[n]at g;injection g with g;subst g;exact⟨O,zAb _ _ _,C⟩
theorem BG(be:MW G τ w m)(aa:m.v=q++l)(_:q.length<=2000000000){td:C2}(J:jT G.p td=some fu)(bb:l.length=fu.params.length)(bg:td.size<=maxLen):
 Cy 69 #[(G.b,0),td] w (g5 G w ⟨m.s,q,⟨gE fu,0,fN fu l,[]⟩::m.cs⟩ (.tuple #[])):=by
 obtain⟨vi,vv,pa,vo,u⟩:=be;obtain⟨_,rfl⟩:=u.frs.ptr;obtain⟨_,⟨_,aq⟩,hF⟩:=u.da;obtain⟨_,_,X,Z,a6⟩:=hF td fu J;have bc:=aq.look (t:=70) underlying70 (X6 w) bg;rw[X]at bc;obtain⟨r,n,bk,_⟩:=Z.form;subst bk;obtain⟨az,c,L⟩:=u.val.form;have an:m.v.length=q.length+l.length:=by rw[aa,Dr]
 rw[an]at L;obtain⟨_,av⟩:=zal u.pok (hV J);obtain⟨⟨aP,aQ,aR,R,aS,aT,aU,aV,aW,aX⟩,aY⟩:=zD u.box;have ao:=u.lt;rw[L]at R;have bR:IntKind.i64.wrap (((q.length+l.length:Nat):Int)-(fu.params.length:Int))=(q.length:Int):=Un
 have H:=U u;have aK:=U Z;have F:=U L;have Q:=U aa;have aE:=U J;have aF:=U X;have E:=U bb;have aI:=U av;obtain⟨d,f,bj,_⟩:=a6;subst bj;clear u Z L aa J X av aq hF an;have bO:=@run_makeMap Tryz.prog;have bm:=Ds w (OL (.slice r fu.params.length n) (.slice d (gE fu).length f));have N:(w.alloc (OL (.slice r fu.params.length n) (.slice d (gE fu).length f))).heap.size=w.heap.size+1:=zA _ _;have ag:Cx w ((w.alloc (OL (.slice r fu.params.length n) (.slice d (gE fu).length f))).alloc (.map #[] 0)).drew:=(((D4 w.heap.size w).alloc Zr _).alloc (by rw[N];omega) _).drew;have af:fZ ((w.alloc (OL (.slice r fu.params.length n) (.slice d (gE fu).length f))).alloc (.map #[] 0)).drew (w.heap.size+1) 0 (.pointer none) (gD [] []):=(N▸oO (w.alloc (OL (.slice r fu.params.length n) (.slice d (gE fu).length f))) (.pointer none):fZ ((w.alloc (OL (.slice r fu.params.length n) (.slice d (gE fu).length f))).alloc (.map #[] 0)) (w.heap.size+1) 0 (.pointer none) (gD [] [])).wd rfl;have aw:((w.alloc (OL (.slice r fu.params.length n) (.slice d (gE fu).length f))).alloc (.map #[] 0)).drew.heap[w.heap.size]?=some (OL (.slice r fu.params.length n) (.slice d (gE fu).length f)):=(D7 _ _ _ (by rw[N];omega)).trans bm
 have ab:((w.alloc (OL (.slice r fu.params.length n) (.slice d (gE fu).length f))).alloc (.map #[] 0)).drew.heap.size=w.heap.size+2:=by
  show((w.alloc (OL (.slice r fu.params.length n) (.slice d (gE fu).length f))).alloc (.map #[] 0)).heap.size=_;rw[zA,N]
 have aB:=U ag;have aG:=U af;have aM:=U aw;clear ag af aw;go_enter func69,ntmps69;go_wp2_with fail
 go_region
 go_wp2_with fail;generalize((w.alloc (OL (.slice r fu.params.length n) (.slice d (gE fu).length f))).alloc (.map #[] 0)).drew=W1 at *;have bS:=Dv ab;have bT:=Dv ab.symm;clear ab
 go_loopw [28] (fun iv wr=>∃(j:Nat) (tm:List Nat) (τr:Nat->Lb),j<=l.length/\iv=.int .i64 (j:Int)/\Cx w wr/\DD w wr τ τr m.cs.length l fu (w.heap.size+1) j tm/\wr.heap[w.heap.size]?=some (OL (.slice r fu.params.length n) (.slice d (gE fu).length f))) (fun iv _=>l.length-(intOf iv).toNat)
 case atStart=>exact⟨0,[],SH τ (w.heap.size+1) (.vmap m.cs.length 0),Dx _,rfl,aB.o,⟨rfl,gO.lbl τ w _ O,aG.o,(fun i b x a3=>by cases a3),zAb _ _ _⟩,aM.o⟩
 case round=>
  obtain⟨j,tm,τr,_,rfl,ai,al,M⟩:=hrel;have D:=U ai;have y:=U al;have aN:=U M;have bl:w.heap.size<wr.heap.size:=zB M;obtain⟨⟨_,_⟩,_⟩:=zG M;clear ai al M;by_cases bd:j<l.length
  .obtain⟨x,C⟩:∃x,fu.params[j]?=some x:=⟨_,Dy (by have:=E.o;omega)⟩
   obtain⟨a,T⟩:∃a,l[j]?=some a:=⟨_,Dy bd⟩
   have a5:=D.o.mono H.o.hB;obtain⟨ae,op,rfl,_,_,_⟩:=(aK.o.below a5 Zr).cells C;have bC:ae<wr.heap.size:=Jt
   have bJ:j<fu.params.length:=(List.getElem?_eq_some_iff.1 C).1;have A:Cx wr (wr.alloc (.cells #[x.name,(x.type:Int)] 100)):=Zb.alloc Zr _;have bP:(wr.alloc (.cells #[x.name,(x.type:Int)] 100)).heap.size=wr.heap.size+1:=zA _ _;have Y:(wr.alloc (.cells #[x.name,(x.type:Int)] 100)).heap[wr.heap.size]?=some (.cells #[x.name,(x.type:Int)] 100):=Ds wr _;go_upto_region 6 with fail;generalize wr.alloc (.cells #[x.name,(x.type:Int)] 100)=W at *;have I:Cx w W:=D.o.trans (A.mono O)
   obtain⟨ad,rfl,a8,bi⟩:∃g,az=some ⟨g,0,none⟩/\g<w.heap.size/\w.cell? ⟨g,q.length+j,none⟩=some (.int .i64 a):=by
    have z:=H.o.val.1;rw[F.o]at z;obtain⟨g,_,S,_,a0,_,a1,_⟩:=xC z (by rw[Q.o,Dr];omega);injection S with S _ _;refine⟨g,S,a0,a1 _ _ ?_⟩;rw[Q.o,Yj,Yi Uh,Yh,show q.length+j-q.length=j by omega,Yn,T];rfl
   have bo:=(I.cell (p:=(G.b,3)) ao).trans R;have bp:=(I.cell (p:=(ad,q.length+j)) a8).trans bi;obtain⟨⟨bu,bv⟩,bw⟩:=zG Y;have bx:=zB Y;have bM:G.b<W.heap.size:=O
   have bA:ad<W.heap.size:=O
   have bG:j<q.length+fu.params.length:=O
   have bI:q.length+j<q.length+fu.params.length:=O
   have bH:(q.length:Int)+(j:Int)<(q.length:Int)+(fu.params.length:Int):=O
   have bQ:IntKind.i64.wrap ((q.length:Int)+(j:Int))=((q.length+j:Nat):Int):=Un
   have bD:(0 :Int)<=(q.length:Int)+(j:Int):=O
   have bK:((q.length:Int)+(j:Int)).toNat=q.length+j:=O
   have bF:¬((q.length:Int)+(j:Int)<0):=O
   go_still_tail 12,(by kernel_rfl)
   repeat still_step
   change wpList _ _ _ _ _ W.drew;have ar:fZ W.drew (w.heap.size+1) j (.pointer none) (gD ((fN fu l).take j) tm):=y.o.map.wd (A.block _ y.o.map.lt);have aH:=U ar;have aJ:=U A;have aC:=U I;have bn:x.name.size<=maxLen:=aI.o x (Yc C);have aL:=U C;have aA:=U T;have aO:=U ((A.block _ bl).trans aN.o);have a9:j<=2000000000:=O
   clear A I Y C T bu bv bw bo bp ar
   go_wp2_with (go_at_call 92;(with_reducible refine(A8 aH.o a9 x.name bn a).mono ?_);rintro e ay ⟨rfl,ap,au,K,bh⟩
                have ax:ay.heap[w.heap.size]?=some (OL (.slice (some ⟨ae,op,none⟩) fu.params.length n) (.slice d (gE fu).length f)):=(K.block _ (show w.heap.size<W.heap.size by omega) (fun(e:w.heap.size=w.heap.size+1)=>O)).trans aO.o;have ah:Cx w ay:=aC.o.trans (((fF.drew (fun k=>k=w.heap.size+1) W).trans K fun _ _ u=>u).below (B:=w.heap.size) (show w.heap.size<=W.heap.size by omega) fun k _ (e:k=w.heap.size+1)=>O);have am:=y.o.next O aJ.o aL.o aA.o ap au ((fF.drew (fun k=>k=w.heap.size+1) W).trans K fun _ _ u=>u);have P:=U (Dt ah (Dt am ax))
                clear ap au K bh ax ah am)
   go_roundw
   case rel=>exact⟨j+1,_,_,O,by go_num,P.o.1,P.o.2.1,P.o.2.2⟩
   case measure=>simp[intOf];omega
  .have ba:j=l.length:=by omega
   subst ba;have bf:(fN fu l).length=l.length:=by unfold fN;rw[List.length_zip,Yh];have:=E.o;omega
   have V:=(D.o.block _ ao).trans H.o.box;rw[F.o]at V;have a7:fZ wr (w.heap.size+1) l.length (.pointer none) (gD (fN fu l) tm):=y.o.map.congr fun s=>by rw[Ye (Dv bf)]
   have ak:=H.o.called (τ':=τr) (mp:=w.heap.size+1) (tm:=tm) (wr:=wr) F.o Q.o D.o y.o.ext aE.o aF.o E.o y.o.len a7 y.o.lab (Nat.le_succ _) y.o.cell;have aD:=U ak;obtain⟨⟨_,_,_,aZ,_,_,_,_,_,_⟩,_⟩:=zD V;rw[E.o]at aZ;have bN:G.b<wr.heap.size:=O
   have bL:q.length<=c:=by
    have z:=H.o.val.1;rw[F.o]at z;have:=nB z _ _ _ rfl;omega
   clear V ak aP aQ aR R aS aT aU aV aW aX aY;go_wp2_with fail
   go_region
   all_goals go_wp2_with fail
   all_goals go_end0
   all_goals
    have aj:=aD.o;rw[World.setCell_alloc_past _ _ _ _ (by show G.b<(wr.setCell _ _).heap.size;simp[World.setCell];omega)]at aj;obtain⟨⟨τ9,bq,br,bs,bt,a2⟩,a4⟩:=aj;exact⟨rfl,⟨τ9,bq,br,bs,bt,a2.drew⟩,a4.drew⟩
section
variable {G:Gm}{τ:Nat->Lb}{w:C3}{m:Vm}{vi vv pa vo:C4}
theorem gC.pay(a:gC G τ w m vi vv pa vo)(c:m.s.cost+1+m.s.fuel<=1000000000):
 gC G τ (w.setCell (G.b,8) (((m.s.cost:Int)+1):Int)) ⟨zV m.s,m.v,m.cs⟩ vi vv pa vo/\Below G.B w (w.setCell (G.b,8) (((m.s.cost:Int)+1):Int)):=
 a.wu (m':=⟨zV m.s,m.v,m.cs⟩) 8 (.int .i64 ((m.s.cost:Int)+1)) (D3 a.box _) a.inp a.val a.o a.frs rfl a.nv a.ni (Nat.le_succ_of_le a.no) c
theorem pK.cells{B:Nat}{v:C4}{k op n:Int}{td:C2}{tc:List Ex}(d:pK B w v (.mk k op n td tc)):
 ∃g o,v=.pointer (some ⟨g,o,none⟩)/\g<B/\w.cell? ⟨g,o,none⟩=some (.int .i64 k)/\w.cell? ⟨g,o+1,none⟩=some (.int .i64 op)/\w.cell? ⟨g,o+2,none⟩=some (.int .i64 n)/\w.cell? ⟨g,o+3,none⟩=some (.string td)/\fS n/\∃c,w.cell? ⟨g,o+4,none⟩=some c/\kU B w c tc:=by
 obtain⟨g,o,rfl,b⟩:=d;rw[y1]at b;obtain⟨a,e,f,i,l,v,j,m⟩:=b;exact⟨g,o,rfl,a.1,a.2,e.2,f.2,i.2,l,v,j.2,m⟩
theorem oP.cells{B:Nat}{v:C4}{k c:Int}{td:C2}{tc:List Ex}{tg th:List St}(i:oP B w v (.mk k c td tc tg th)):
 ∃g o,v=.pointer (some ⟨g,o,none⟩)/\g<B/\w.cell? ⟨g,o,none⟩=some (.int .i64 k)/\w.cell? ⟨g,o+1,none⟩=some (.int .i64 c)/\w.cell? ⟨g,o+2,none⟩=some (.string td)/\(∃d,w.cell? ⟨g,o+3,none⟩=some d/\kU B w d tc)/\(∃f,w.cell? ⟨g,o+4,none⟩=some f/\f6 B w f tg)/\∃e,w.cell? ⟨g,o+5,none⟩=some e/\f6 B w e th:=by
 obtain⟨g,o,rfl,b⟩:=i;rw[EC]at b;obtain⟨a,j,l,⟨t,m,q⟩,⟨u,n,r⟩,x,p,s⟩:=b;exact⟨g,o,rfl,a.1,a.2,j.2,l.2,⟨t,m.2,q⟩,⟨u,n.2,r⟩,x,p.2,s⟩
end
theorem tX(f:MW G τ w m){k:Int}{td:C2}{tc:List Ex}(d:pK G.B w v (.mk k op n td tc))(t:k=1\/k=2)(u:m.v.length<=2000000000):
 Cy 94 #[(G.b,0),v] w (g5 G w ⟨m.s,m.v++[n],m.cs⟩ (.tuple #[])):=by
 obtain⟨g,o,rfl,_,_,_,_,_,j,_⟩:=d.cells;have p:=U f;have r:=U j;obtain⟨vi,vv,pa,vo,a⟩:=f;have z:=a.lt;have x:=a.hB;have y:g<w.heap.size:=O
 clear a d j;rcases t with rfl|rfl
 all_goals
  go_enter func94,ntmps94
  go_wp2_with (first
   | (go_at_call 97;(with_reducible refine(yN p.o n r.o u).mono ?_);rintro e _ ⟨rfl,i,c⟩
      have q:=U i;have l:=U c
      clear i c))
  go_end0
  exact⟨rfl,q.o,l.o⟩
theorem tY(w:C3):(zeroValue 177).run Tryz.prog w=.ok (.pointer none) w:=by kernel_rfl
theorem rG.var{a:Nat}{pa:C4}{c:Fr}{p:C4}{mp:Nat}{vo:C4}{tm l:List Nat}(i:rG B τ w d a pa c p mp vo tm l){td:C2}(f:ja c.vs td=some j):
 ∃b x,tm[j]?=some b/\c.vs[j]?=some x/\gD c.vs tm td=.pointer (some ⟨b,0,none⟩)/\τ b=.cel d j/\w.heap[b]?=some (.cells #[(x.2:Int)] 3)/\fS x.2/\o8 c.vs td=x.2:=by
 have k:=yO f;obtain⟨b,e⟩:∃b,tm[j]?=some b:=⟨_,Dy (by rw[i.ll];exact k)⟩
 obtain⟨x,g⟩:∃x,c.vs[j]?=some x:=⟨_,Dy k⟩
 obtain⟨m,n,o⟩:=i.cell j b x e g;refine⟨b,x,e,g,?_,m,n,o,?_⟩
 .unfold gD
  rw[f];dsimp only;rw[e]
 .unfold o8
  rw[f];dsimp only;rw[g];rfl
theorem JB(A:MW G τ w m){td:C2}{tc:List Ex}(q:pK G.B w v (.mk 3 op n td tc)){c:Fr}{r:List Fr}(p:m.cs=c::r)(z:ja c.vs td=some j)(D:td.size<=maxLen)(K:m.v.length<=2000000000):
 Cy 94 #[(G.b,0),v] w (g5 G w ⟨m.s,m.v++[o8 c.vs td],m.cs⟩ (.tuple #[])):=by
 obtain⟨g,o,rfl,_,_,_,_,_,_,_⟩:=q.cells;have P:=U A;obtain⟨vi,vv,pa,vo,d⟩:=A;have X:=d.lt;have Q:=d.hB;have T:g<w.heap.size:=O
 obtain⟨⟨_,_,_,_,_,_,_,_,_,_⟩,_⟩:=zD d.box;have u:=d.frs;rw[p]at u;obtain⟨a,_,_,mp,_,tm,_,rfl,f,_⟩:=u;obtain⟨⟨_,_,_,_,_⟩,_⟩:=zS f.box;have V:=zB f.box;obtain⟨b,x,J,M,k,_,i,N,y⟩:=f.var z;have L:=f.map.2.look (t:=163) underlying163 (tY w) D;rw[k]at L
 have W:(Instr.lookup 163 (.map (some mp)) (.string td) false).run Tryz.prog w.drew=.ok (.pointer (some ⟨b,0,none⟩)) w.drew:=by
  have:=(f.map.2.wd (w':=w.drew) rfl).look (t:=163) underlying163 (tY _) D;rw[k]at this;exact this
 have R:w.cell? (b,0)=some (.int .i64 x.2):=(Du i 0).trans rfl;have S:=zB i;rw[y];have I:=U N;have H:=C0 (MW G τ w.drew m) ⟨_,_,_,_,d.drew⟩;clear d f p z J M k i y q;go_enter func94,ntmps94;go_wp2_with fail
 go_still_tail 15,(by kernel_rfl)
 repeat still_step
 change wpList _ _ _ _ _ w.drew
 go_wp2_with (first
  | (go_at_call 97;(refine(yN H.o x.2 I.o K).mono ?_);rintro e _ ⟨rfl,C,l⟩
     have F:=U C;have E:=U l
     clear C l))
 go_end0
 exact⟨rfl,F.o,Zb.drew.trans E.o⟩
theorem gC.paid{vi vv pa vo:C4}(h:gC G τ w m vi vv pa vo):(w.setCell (G.b,8) (((m.s.cost:Int)+1):Int)).heap[G.b]?=some (XO G vi vv pa vo (zV m.s)):=D3 h.box _
theorem JC(af:MW G τ w m){td:C2}{tc:List Ex}(N:pK G.B w v (.mk 4 op n td tc))(k:m.v=q++[a])(_:q.length<=1000000000)(ah:m.s.cost+1+m.s.fuel<=1000000000):
 Cy 94 #[(G.b,0),v] w (g5 G w ⟨zV m.s,q++[rP op a],m.cs⟩ (.tuple #[])):=by
 obtain⟨g,o,rfl,_,ab,K,ad,ae,_,_⟩:=N.cells;obtain⟨vi,vv,pa,vo,d⟩:=af;have aq:=d.lt;have am:=d.hB;have an:=d.hBb;have ap:g<w.heap.size:=O
 have ag:g≠G.b:=O
 have au:G.b≠g:=O
 obtain⟨⟨u,y,z,A,C,D,E,F,H,I⟩,J⟩:=zD d.box;have R:=d.pay ah;have av:IntKind.i64.wrap ((m.s.cost:Int)+1)=(m.s.cost:Int)+1:=Un
 have j:fS a:=d.nv a Gp;have p:=U R;have V:=U j;have Z:=U (K0 op j);have aa:=U k;have P:=fun i=>(Dw w ⟨G.b,8,none⟩ (.int .i64 ((m.s.cost:Int)+1)) i)
 have l:(w.setCell (G.b,8) (((m.s.cost:Int)+1):Int)).heap.size=w.heap.size:=Uk
 have M:∀i,(w.setCell (G.b,8) (((m.s.cost:Int)+1):Int)).cell? ⟨g,i,none⟩=w.cell? ⟨g,i,none⟩:=fun i=>D6 (P g ag)
 have al:(w.setCell (G.b,8) (((m.s.cost:Int)+1):Int)).cell? (g,o+1)=some (.int .i64 op):=(M _).trans K;have r:=U d.paid;clear d N R j P M k;go_enter func94,ntmps94;go_upto_region 9 with fail;have ax:=Dv l;have aw:=Dv l.symm;generalize w.setCell (G.b,8) (((m.s.cost:Int)+1):Int)=W at *;clear l u y z A C D E F H I J ab K ad ae;have ao:g<W.heap.size:=O
 obtain⟨_,c,rfl,ai,aj,ak,_,S,T⟩:=p.o.1.wn (q:=q) (x:=a) aa.o;have t:=U (Dt S T);have f:=r.o;obtain⟨⟨u,y,z,A,C,D,E,F,H,I⟩,J⟩:=zD f;have ar:G.b<W.heap.size:=zB f;clear S T f
 go_region_law (first
  |(go_simp;go_at_call 96;(refine(xt (w:=W.drew) r.o ai aj ak O).mono ?_);rintro e _ ⟨rfl,rfl⟩)
  |(go_simp;go_at_call 113;(refine(SJ op a (ZI V.o) _).mono ?_);rintro e _ ⟨rfl,rfl⟩)
  | (go_simp;go_at_call 97;(refine(yN (m:=⟨zV m.s,q,m.cs⟩) ⟨_,_,_,_,t.o.1.drew⟩ (rP op a) Z.o Xw).mono ?_);rintro e _ ⟨rfl,Q,L⟩
     have Y:=U Q;have X:=U L
     clear Q L))
 all_goals
  go_wp2_with fail
  go_end0
  exact⟨rfl,Y.o,(p.o.2.trans t.o.2.drew).trans X.o⟩
theorem tZ(Y:MW G τ w m){td:C2}{tc:List Ex}(u:pK G.B w v (.mk 5 op n td tc)){b:Int}(f:m.v=q++[a]++[b])(X:q.length<=1000000000)(A:uj op b=true)(aa:m.s.cost+1+m.s.fuel<=1000000000):
 Cy 94 #[(G.b,0),v] w (g5 G w ⟨zV m.s,q++[uC op a b],m.cs⟩ (.tuple #[])):=by
 obtain⟨g,o,rfl,_,l,p,V,r,_,_⟩:=u.cells;obtain⟨vi,vv,pa,vo,c⟩:=Y;have aj:=c.lt;have af:=c.hB;have ag:=c.hBb;have ai:g<w.heap.size:=O
 have Z:g≠G.b:=O
 have ak:G.b≠g:=O
 obtain⟨⟨I,J,K,L,M,N,P,Q,R,S⟩,T⟩:=zD c.box;have z:=c.pay aa;have al:IntKind.i64.wrap ((m.s.cost:Int)+1)=(m.s.cost:Int)+1:=Un
 have k:=U z;have x:=fun i=>(Dw w ⟨G.b,8,none⟩ (.int .i64 ((m.s.cost:Int)+1)) i)
 have j:(w.setCell (G.b,8) (((m.s.cost:Int)+1):Int)).heap.size=w.heap.size:=Uk
 have d:∀i,(w.setCell (G.b,8) (((m.s.cost:Int)+1):Int)).cell? ⟨g,i,none⟩=w.cell? ⟨g,i,none⟩:=fun i=>D6 (x g Z)
 have ab:(w.setCell (G.b,8) (((m.s.cost:Int)+1):Int)).cell? (g,o)=some (.int .i64 5):=(d _).trans l;have ad:(w.setCell (G.b,8) (((m.s.cost:Int)+1):Int)).cell? (g,o+1)=some (.int .i64 op):=(d _).trans p;have ae:(w.setCell (G.b,8) (((m.s.cost:Int)+1):Int)).cell? (g,o+3)=some (.string td):=(d _).trans r;have C:=U (c.nv a Gj);have F:=U f;clear f;have H:=U A;clear A;clear c u z x d;go_enter func94,ntmps94;go_upto_region 11 with fail;have an:=Dv j;have am:=Dv j.symm;generalize w.setCell (G.b,8) (((m.s.cost:Int)+1):Int)=W at *;clear j I J K L M N P Q R S T l p V r;have ah:g<W.heap.size:=O
 go_wp2_with (first
  | (go_at_call 114;(refine(SM (m:=⟨zV m.s,m.v,m.cs⟩) ⟨_,_,_,_,k.o.1⟩ F.o X C.o op H.o).mono ?_);rintro e _ ⟨rfl,y,t⟩
     have E:=U y;have D:=U t
     clear y t))
 go_end0
 exact⟨rfl,E.o,k.o.2.trans D.o⟩
theorem xT(T:MW G τ w m){td:C2}{tc:List Ex}(t:pK G.B w v (.mk 5 op n td tc)){b:Int}(f:m.v=q++[a]++[b])(S:q.length<=1000000000)(y:uj op b=false)(Y:m.s.cost+1+m.s.fuel<=1000000000):
 Cy 94 #[(G.b,0),v] w (ya G w none (kQ (zV m.s) 2)):=by
 obtain⟨g,o,rfl,_,l,p,Q,r,_,_⟩:=t.cells;obtain⟨vi,vv,pa,vo,c⟩:=T;have ah:=c.lt;have ad:=c.hB;have ae:=c.hBb;have ag:g<w.heap.size:=O
 have X:g≠G.b:=O
 have ai:G.b≠g:=O
 obtain⟨⟨D,E,F,H,I,J,K,L,M,N⟩,P⟩:=zD c.box;have x:=c.pay Y;have aj:IntKind.i64.wrap ((m.s.cost:Int)+1)=(m.s.cost:Int)+1:=Un
 have k:=U x;have u:=fun i=>(Dw w ⟨G.b,8,none⟩ (.int .i64 ((m.s.cost:Int)+1)) i)
 have j:(w.setCell (G.b,8) (((m.s.cost:Int)+1):Int)).heap.size=w.heap.size:=Uk
 have d:∀i,(w.setCell (G.b,8) (((m.s.cost:Int)+1):Int)).cell? ⟨g,i,none⟩=w.cell? ⟨g,i,none⟩:=fun i=>D6 (u g X)
 have Z:(w.setCell (G.b,8) (((m.s.cost:Int)+1):Int)).cell? (g,o)=some (.int .i64 5):=(d _).trans l;have aa:(w.setCell (G.b,8) (((m.s.cost:Int)+1):Int)).cell? (g,o+1)=some (.int .i64 op):=(d _).trans p;have ab:(w.setCell (G.b,8) (((m.s.cost:Int)+1):Int)).cell? (g,o+3)=some (.string td):=(d _).trans r;have z:=U (c.nv a Gj);have A:=U f;clear f;have C:=U y;clear y;clear c t x u d;go_enter func94,ntmps94;go_upto_region 11 with fail;have al:=Dv j;have ak:=Dv j.symm;generalize w.setCell (G.b,8) (((m.s.cost:Int)+1):Int)=W at *;clear j D E F H I J K L M N P l p Q r;have af:g<W.heap.size:=O
 go_wp2_with (first
  |(go_at_call 114;(refine(XQ (m:=⟨zV m.s,m.v,m.cs⟩) ⟨_,_,_,_,k.o.1⟩ A.o S z.o op C.o).mono ?_);rintro e _ ⟨rfl,V,R⟩;exact⟨rfl,rfl,V,k.o.2.trans R⟩))
theorem t1(au:MW G τ w m){td:C2}{tc:List Ex}(F:pK G.B w v (.mk 6 op n td tc)){i:Int}(Q:m.v=q++[i])(_:q.length<=1000000000)(J:zZ G.p.wa td=some k)(L:m.s.arr[k]?=some l)(ay:td.size<=maxLen)(I:0<=i/\i<(l.length:Int))(aw:m.s.cost+1+m.s.fuel<=1000000000):
 Cy 94 #[(G.b,0),v] w (g5 G w ⟨zV m.s,q++[l.getD i.toNat 0],m.cs⟩ (.tuple #[])):=by
 obtain⟨g,o,rfl,_,z,A,an,C,_,_⟩:=F.cells;obtain⟨vi,vv,pa,vo,a⟩:=au;have aJ:=a.lt;have aD:=a.hB;have aE:=a.hBb;have aI:g<w.heap.size:=O
 have av:g≠G.b:=O
 have aK:G.b≠g:=O
 obtain⟨⟨aa,ab,ad,ae,af,ag,ah,ai,aj,ak⟩,al⟩:=zD a.box;have P:=a.pay aw;have aL:IntKind.i64.wrap ((m.s.cost:Int)+1)=(m.s.cost:Int)+1:=Un
 have f:=U P;have K:=fun i=>(Dw w ⟨G.b,8,none⟩ (.int .i64 ((m.s.cost:Int)+1)) i)
 have r:(w.setCell (G.b,8) (((m.s.cost:Int)+1):Int)).heap.size=w.heap.size:=Uk
 have c:∀i,(w.setCell (G.b,8) (((m.s.cost:Int)+1):Int)).cell? ⟨g,i,none⟩=w.cell? ⟨g,i,none⟩:=fun i=>D6 (K g av)
 have aA:(w.setCell (G.b,8) (((m.s.cost:Int)+1):Int)).cell? (g,o)=some (.int .i64 6):=(c _).trans z;have aB:(w.setCell (G.b,8) (((m.s.cost:Int)+1):Int)).cell? (g,o+1)=some (.int .i64 op):=(c _).trans A;have aC:(w.setCell (G.b,8) (((m.s.cost:Int)+1):Int)).cell? (g,o+3)=some (.string td):=(c _).trans C;have Y:=U Q;have u:=U J;have y:=U L;have t:=U I;clear Q J L I;clear a F P K c;go_enter func94,ntmps94;go_upto_region 13 with fail;have aN:=Dv r;have aM:=Dv r.symm;generalize w.setCell (G.b,8) (((m.s.cost:Int)+1):Int)=W at *;clear r aa ab ad ae af ag ah ai aj ak al z A an C;have aG:g<W.heap.size:=O
 go_wp2_with (first
  | (go_at_call 115;(refine(A7 (m:=⟨zV m.s,m.v,m.cs⟩) ⟨_,_,_,_,f.o.1⟩ Y.o O u.o y.o ay t.o).mono ?_)
     rintro e az ⟨am,τ1,_,_,_,_,_,rfl,M,aq,ax,j,D⟩;have ar:i.toNat<l.length:=by have:=t.o;omega
     obtain⟨x,d⟩:∃x,l[i.toNat]?=some x:=⟨_,Dy ar⟩
     have aF:az.cell? (am,i.toNat)=some (.int .i64 x):=(Du j i.toNat).trans (by simp[d]);have H:l.getD i.toNat 0=x:=by rw[Yl,d];rfl
     have aH:=zB j;have Z:=C0 (fS x) (by obtain⟨_,ap⟩:=f.o.1.arr;obtain⟨_,_,_,_,_,_,ao,_⟩:=ap.at u.o y.o;exact ao x (Yc d));have V:=U M;have R:=U D;have T:=U H
     clear M aq ax j D d H)
  | (go_at_call 97;(refine(yN (m:=⟨zV m.s,q,m.cs⟩) ⟨_,_,_,_,V.o⟩ x Z.o Xw).mono ?_);rintro e _ ⟨rfl,N,E⟩
     have X:=U N;have S:=U E
     clear N E))
 go_end0
 exact⟨rfl,T.o▸X.o,(f.o.2.trans R.o).trans S.o⟩
theorem x0(Z:MW G τ w m){td:C2}{tc:List Ex}(u:pK G.B w v (.mk 6 op n td tc)){i:Int}(D:m.v=q++[i])(_:q.length<=1000000000)(y:zZ G.p.wa td=some k)(A:m.s.arr[k]?=some l)(ae:td.size<=maxLen)(x:¬(0<=i/\i<(l.length:Int)))(ad:m.s.cost+1+m.s.fuel<=1000000000):
 Cy 94 #[(G.b,0),v] w (ya G w none (kQ (zV m.s) 3)):=by
 obtain⟨g,o,rfl,_,j,r,X,t,_,_⟩:=u.cells;obtain⟨vi,vv,pa,vo,a⟩:=Z;have am:=a.lt;have ai:=a.hB;have aj:=a.hBb;have al:g<w.heap.size:=O
 have ab:g≠G.b:=O
 have an:G.b≠g:=O
 obtain⟨⟨J,K,L,M,N,P,Q,R,S,T⟩,V⟩:=zD a.box;have C:=a.pay ad;have ao:IntKind.i64.wrap ((m.s.cost:Int)+1)=(m.s.cost:Int)+1:=Un
 have f:=U C;have z:=fun i=>(Dw w ⟨G.b,8,none⟩ (.int .i64 ((m.s.cost:Int)+1)) i)
 have d:(w.setCell (G.b,8) (((m.s.cost:Int)+1):Int)).heap.size=w.heap.size:=Uk
 have c:∀i,(w.setCell (G.b,8) (((m.s.cost:Int)+1):Int)).cell? ⟨g,i,none⟩=w.cell? ⟨g,i,none⟩:=fun i=>D6 (z g ab)
 have af:(w.setCell (G.b,8) (((m.s.cost:Int)+1):Int)).cell? (g,o)=some (.int .i64 6):=(c _).trans j;have ag:(w.setCell (G.b,8) (((m.s.cost:Int)+1):Int)).cell? (g,o+1)=some (.int .i64 op):=(c _).trans r;have ah:(w.setCell (G.b,8) (((m.s.cost:Int)+1):Int)).cell? (g,o+3)=some (.string td):=(c _).trans t;have I:=U D;have F:=U y;have H:=U A;have E:=U x;clear D y A x;clear a u C z c;go_enter func94,ntmps94;go_upto_region 13 with fail;have aq:=Dv d;have ap:=Dv d.symm;generalize w.setCell (G.b,8) (((m.s.cost:Int)+1):Int)=W at *;clear d J K L M N P Q R S T V j r X t;have ak:g<W.heap.size:=O
 go_wp2_with (first
  |(go_at_call 115;(refine(FW (m:=⟨zV m.s,m.v,m.cs⟩) ⟨_,_,_,_,f.o.1⟩ I.o O F.o H.o ae E.o).mono ?_);rintro e _ ⟨rfl,aa,Y⟩;exact⟨rfl,rfl,aa,f.o.2.trans Y⟩))
theorem GL(Z:MW G τ w m){td:C2}{tc:List Ex}(u:pK G.B w v (.mk 7 op n td tc))(D:m.v=q++l)(_:q.length<=1000000000)(x:jT G.p td=some fu)(z:l.length=fu.params.length)(ad:td.size<=maxLen)(ab:m.s.cost+1+m.s.fuel<=1000000000):
 Cy 94 #[(G.b,0),v] w (g5 G w ⟨zV m.s,q,⟨gE fu,0,fN fu l,[]⟩::m.cs⟩ (.tuple #[])):=by
 obtain⟨g,o,rfl,_,j,k,Y,r,_,_⟩:=u.cells;obtain⟨vi,vv,pa,vo,a⟩:=Z;have al:=a.lt;have ah:=a.hB;have ai:=a.hBb;have ak:g<w.heap.size:=O
 have aa:g≠G.b:=O
 have am:G.b≠g:=O
 obtain⟨⟨K,L,M,N,P,Q,R,S,T,V⟩,X⟩:=zD a.box;have C:=a.pay ab;have an:IntKind.i64.wrap ((m.s.cost:Int)+1)=(m.s.cost:Int)+1:=Un
 have f:=U C;have y:=fun i=>(Dw w ⟨G.b,8,none⟩ (.int .i64 ((m.s.cost:Int)+1)) i)
 have d:(w.setCell (G.b,8) (((m.s.cost:Int)+1):Int)).heap.size=w.heap.size:=Uk
 have c:∀i,(w.setCell (G.b,8) (((m.s.cost:Int)+1):Int)).cell? ⟨g,i,none⟩=w.cell? ⟨g,i,none⟩:=fun i=>D6 (y g aa)
 have ae:(w.setCell (G.b,8) (((m.s.cost:Int)+1):Int)).cell? (g,o)=some (.int .i64 7):=(c _).trans j;have af:(w.setCell (G.b,8) (((m.s.cost:Int)+1):Int)).cell? (g,o+1)=some (.int .i64 op):=(c _).trans k;have ag:(w.setCell (G.b,8) (((m.s.cost:Int)+1):Int)).cell? (g,o+3)=some (.string td):=(c _).trans r;have J:=U D;have F:=U x;have H:=U z;clear D x z;clear a u C y c;go_enter func94,ntmps94;go_upto_region 15 with fail;have ap:=Dv d;have ao:=Dv d.symm;generalize w.setCell (G.b,8) (((m.s.cost:Int)+1):Int)=W at *;clear d K L M N P Q R S T V X j k Y r;have aj:g<W.heap.size:=O
 go_wp2_with (first
  | (go_at_call 69;(refine(BG (m:=⟨zV m.s,m.v,m.cs⟩) ⟨_,_,_,_,f.o.1⟩ J.o O F.o H.o ad).mono ?_);rintro e _ ⟨rfl,A,t⟩
     have I:=U A;have E:=U t
     clear A t))
 go_end0
 exact⟨rfl,I.o,f.o.2.trans E.o⟩
theorem q0(T:MW G τ w m){td:C2}{tc:List Ex}(q:pK G.B w v (.mk 8 op n td tc)){z:List Int}(r:m.s.inp=x::z)(S:m.v.length<=2000000000)(X:m.s.cost+1+m.s.fuel<=1000000000):
 Cy 94 #[(G.b,0),v] w (g5 G w ⟨{ zV m.s with inp:=z },m.v++[x],m.cs⟩ (.tuple #[])):=by
 obtain⟨g,o,rfl,_,j,k,R,l,_,_⟩:=q.cells;obtain⟨vi,vv,pa,vo,a⟩:=T;have ag:=a.lt;have ab:=a.hB;have ad:=a.hBb;have af:g<w.heap.size:=O
 have V:g≠G.b:=O
 have ah:G.b≠g:=O
 obtain⟨⟨E,F,H,I,J,K,L,M,N,P⟩,Q⟩:=zD a.box;have y:=a.pay X;have ai:IntKind.i64.wrap ((m.s.cost:Int)+1)=(m.s.cost:Int)+1:=Un
 have f:=U y;have t:=fun i=>(Dw w ⟨G.b,8,none⟩ (.int .i64 ((m.s.cost:Int)+1)) i)
 have d:(w.setCell (G.b,8) (((m.s.cost:Int)+1):Int)).heap.size=w.heap.size:=Uk
 have c:∀i,(w.setCell (G.b,8) (((m.s.cost:Int)+1):Int)).cell? ⟨g,i,none⟩=w.cell? ⟨g,i,none⟩:=fun i=>D6 (t g V)
 have Y:(w.setCell (G.b,8) (((m.s.cost:Int)+1):Int)).cell? (g,o)=some (.int .i64 8):=(c _).trans j;have Z:(w.setCell (G.b,8) (((m.s.cost:Int)+1):Int)).cell? (g,o+1)=some (.int .i64 op):=(c _).trans k;have aa:(w.setCell (G.b,8) (((m.s.cost:Int)+1):Int)).cell? (g,o+3)=some (.string td):=(c _).trans l;have C:=U r;clear r;clear a q y t c;go_enter func94,ntmps94;go_upto_region 17 with fail;have ak:=Dv d;have aj:=Dv d.symm;generalize w.setCell (G.b,8) (((m.s.cost:Int)+1):Int)=W at *;clear d E F H I J K L M N P Q j k R l;have ae:g<W.heap.size:=O
 go_wp2_with (first
  | (go_at_call 116;(refine(N1 (m:=⟨zV m.s,m.v,m.cs⟩) ⟨_,_,_,_,f.o.1⟩ C.o S).mono ?_);rintro e _ ⟨rfl,u,p⟩
     have D:=U u;have A:=U p
     clear u p))
 go_end0
 exact⟨rfl,D.o,f.o.2.trans A.o⟩
theorem t2(M:MW G τ w m){td:C2}{tc:List Ex}(p:pK G.B w v (.mk 8 op n td tc))(q:m.s.inp=[])(Q:m.s.cost+1+m.s.fuel<=1000000000):
 Cy 94 #[(G.b,0),v] w (ya G w none (kQ (zV m.s) 4)):=by
 obtain⟨g,o,rfl,_,j,k,K,l,_,_⟩:=p.cells;obtain⟨vi,vv,pa,vo,a⟩:=M;have aa:=a.lt;have V:=a.hB;have X:=a.hBb;have Z:g<w.heap.size:=O
 have P:g≠G.b:=O
 have ab:G.b≠g:=O
 obtain⟨⟨x,y,z,A,C,D,E,F,H,I⟩,J⟩:=zD a.box;have t:=a.pay Q;have ad:IntKind.i64.wrap ((m.s.cost:Int)+1)=(m.s.cost:Int)+1:=Un
 have f:=U t;have r:=fun i=>(Dw w ⟨G.b,8,none⟩ (.int .i64 ((m.s.cost:Int)+1)) i)
 have d:(w.setCell (G.b,8) (((m.s.cost:Int)+1):Int)).heap.size=w.heap.size:=Uk
 have c:∀i,(w.setCell (G.b,8) (((m.s.cost:Int)+1):Int)).cell? ⟨g,i,none⟩=w.cell? ⟨g,i,none⟩:=fun i=>D6 (r g P)
 have R:(w.setCell (G.b,8) (((m.s.cost:Int)+1):Int)).cell? (g,o)=some (.int .i64 8):=(c _).trans j;have S:(w.setCell (G.b,8) (((m.s.cost:Int)+1):Int)).cell? (g,o+1)=some (.int .i64 op):=(c _).trans k;have T:(w.setCell (G.b,8) (((m.s.cost:Int)+1):Int)).cell? (g,o+3)=some (.string td):=(c _).trans l;have u:=U q;clear q;clear a p t r c;go_enter func94,ntmps94;go_upto_region 17 with fail;have af:=Dv d;have ae:=Dv d.symm;generalize w.setCell (G.b,8) (((m.s.cost:Int)+1):Int)=W at *;clear d x y z A C D E F H I J j k K l;have Y:g<W.heap.size:=O
 go_wp2_with (first
  |(go_at_call 116;(refine(SN (m:=⟨zV m.s,m.v,m.cs⟩) ⟨_,_,_,_,f.o.1⟩ u.o).mono ?_);rintro e _ ⟨rfl,N,L⟩;exact⟨rfl,rfl,N,f.o.2.trans L⟩))
