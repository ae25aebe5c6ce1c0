import Derived.Test.YthcmenajdcbnnaaGreatDoorAnTyRk
set_option linter.unusedSimpArgs false
set_option linter.unusedVariables false
set_option maxRecDepth 100000
set_option maxHeartbeats 99000000
namespace Go.Proofs.YthcmenajdcbnnaaGreatDoor
open Go.RowKit Tryz
theorem Qh{p:Prop}(h:p:=by
 simp only[Dv,decide_eq_true_eq]at a;rw[uD a.1.1.2];simp only[Dn,Dp,Du]
 omega):p:=h
theorem Qi{p:Prop}(h:p:=by
 obtain⟨_,_,_,a⟩:=qg a;injection a with a _;rw[<-a,uC,d4]
 omega):p:=h
variable{l b q:List Int}{k ln d B j:Nat}{s:C2}{op n a x:Int}{p:Pr}{f fu:Fu}{r:List dY}{w:C3}{v:C4}{τ:Nat->Lb}{G:Gm}{m:Vm}
theorem O4{t:List UInt8}(a:yj t=some 0):xQ t=true:=by
 unfold yj at a;split at a
 .injection a with a
  omega
 .split at a
  .injection a with a
   omega
  .split at a
   .rename_i b
    exact b
   .cases a
theorem ZJ{l t:List UInt8}{k:Int}(a:wI l=some (k,t))(d:k=0):xQ t=true:=by
 subst d;unfold wI at a;split at a
 .cases hk:yj (l.takeWhile q9)with
  |none=>rw[hk]at a;cases a
  |some j=>
    rw[hk]at a;injection a with a;injection a with b c;subst b c;exact O4 hk
 .split at a
  .injection a with a
   injection a with b c;omega
  .cases a
theorem e9:∀(n:Nat) (l:List UInt8) (f:Nat) (b:List dY),l.length<=n->qE l f=(b,none)->(∀t∈b,t.kind=0->xQ t.text=true/\t.text.length<=l.length)/\b.length<=l.length+1
 | _,[],f,b,_,a=>by
   rw[qE]at a;injection a with a _;subst a;refine⟨fun t g=>?_,Ur⟩;obtain rfl:=List.mem_singleton.1 g;exact fun a=>Xb
 |0,c::r,f,b,a,_=>by simp at a
 | n+1,c::r,f,b,hl,a=>by
   simp only[Dp]at hl ⊢;rw[qE]at a
   have j:∀{k:Nat},k<=r.length->((∀t∈b,t.kind=0->xQ t.text=true/\t.text.length<=k)/\b.length<=k+1)->(∀t∈b,t.kind=0->xQ t.text=true/\t.text.length<=r.length+1)/\b.length<=r.length+1+1:=fun y ⟨m,x⟩=>
    ⟨fun t g e=>⟨(m t g e).1,by have:=(m t g e).2;omega⟩,O⟩
   split at a
   .exact j Zr (e9 n r _ b O a)
   .split at a
    .exact j Zr (e9 n r _ b O a)
    .split at a
     .have o:=List.IsSuffix.length_le (List.dropWhile_suffix (l:=r) (fun d:UInt8=>d.toNat != 10))
      exact j o (e9 n _ _ b O a)
     .split at a
      .cases a
      .rename_i k t p
       have o:(r.drop (t.length-1)).length=r.length-(t.length-1):=Yq;obtain⟨A,s,_⟩:=UE p;rw[Dp]at s;injection a with v w;obtain⟨q,z⟩:=e9 n (r.drop (t.length-1)) f (qE (r.drop (t.length-1)) f).1 O (by rw[<-w]);subst v;refine⟨fun u i=>?_,?_⟩
       .rcases List.mem_cons.1 i with rfl|i
        .exact fun e=>⟨ZJ p e,s⟩
        .exact fun e=>⟨(q u i e).1,by have:=(q u i e).2;omega⟩
       .rw[Dp]
        omega
def XJ(l:List dY):Nat:=match l with|t::_=>t.line | []=>0
def xT:Pr:=⟨[],[]⟩
def JV(a:List dY):Pr×Int×Nat:=
 match kg a with
 |.ok p _=>if eK p=true then(p,0,0)else(xT,2,0)
 |.bad r=>(xT,20,XJ r)
 |.deep r=>(xT,2,XJ r)
 |.o=>(xT,0,0)
def yc(s:C2):Pr×Int×Nat:=
 if 100000<s.size then(xT,2,0)
 else match (qE s.data.toList 1).2 with
  |some ln=>(xT,20,ln)
  |none=>JV (qE s.data.toList 1).1
theorem oF(h:100000<s.size):yc s=(xT,2,0):=by unfold yc;rw[Dm h]
theorem DC(_:s.size<=100000)(a:(qE s.data.toList 1).2=some ln):yc s=(xT,20,ln):=by unfold yc;rw[Dl O,a]
theorem hI(_:s.size<=100000){a:List dY}(b:qE s.data.toList 1=(a,none)):yc s=JV a:=by unfold yc;rw[Dl O,b]
theorem oG{l:List UInt8}(h:(qE l 1).2=none):qE l 1=((qE l 1).1,none):=by rw[<-h]
def vG:List Ex->Nat
 |[]=>0
 |e::r=>(yx e).length+vG r
theorem tR:∀(l:List Ex),vG l<=(yM ((gE l).map (·.2.2))).length
 |[]=>Dy _
 |[x]=>by rw[gE,gE];show(yx x).length+0<=(yx x).length;omega
 | x::y::r=>by
   have h:=tR (y::r);have e:yM ((gE (x::y::r)).map (·.2.2))=yx x++44::32::yM ((gE (y::r)).map (·.2.2)):=rfl;rw[e,vG,Dn,Dp,Dp];omega
theorem oH(lev:Int)(c:Int×Int×List UInt8):c.2.2.length<=(wP lev c).length:=by
 unfold wP;split
 .simp
  omega
 .exact Dy _
theorem UF(_:20<=op)(_:op<=22):1<=(xU op).data.toList.length:=by
 have:op=20\/op=21\/op=22:=O
 rcases this with rfl|rfl|rfl<;>decide
theorem O5(n:Int)(_:0<=n):1<=(Lib.itoa n).length:=by
 obtain⟨u,rfl⟩:∃u:Nat,n=(u:Int):=⟨n.toNat,O⟩
 unfold Lib.itoa;rw[Dl O];rw[Lib.decDigits];split
 .exact Dy _
 .rw[Dn,D2]
  omega
theorem ZK(a:uH s=true):1<=s.data.toList.length:=by
 unfold uH xC at a;simp only[Dv]at a;have b:=a.1.1.1.1;cases hs:s.data.toList with
 |nil=>rw[hs]at b;cases b
 |cons x r=>rw[Dp];omega
mutual
theorem UG:∀(e:Ex) (m:Nat),vA e m=true->zu e<=2*(yx e).length
 | .mk k op n td tc,m,h=>by
   rw[ju,Dv,Dv]at h;have i:=oI tc (m-1) h.2;have c:=h.1.2;rw[zu,yx];unfold zk at c;unfold RB;by_cases j:k=1
   .rw[Dm j]at c ⊢
    simp only[Dv,decide_eq_true_eq]at c;have:tc=[]:=List.length_eq_zero_iff.1 c.2;subst this;have:=O5 n c.1.1.1;rw[zG];omega
   rw[Dl j]at c ⊢;by_cases l:k=2
   .rw[Dm l]at c ⊢
    simp only[Dv,decide_eq_true_eq]at c;have:tc=[]:=List.length_eq_zero_iff.1 c.2;subst this;rw[zG];unfold zao;split
    .show 0+2<=2*4;omega
    .show 0+2<=2*5;omega
   rw[Dl l]at c ⊢;by_cases o:k=3
   .rw[Dm o]at c ⊢
    simp only[Dv,decide_eq_true_eq]at c;have:tc=[]:=List.length_eq_zero_iff.1 c.2;subst this;have:=ZK c.1.1.1;rw[zG];omega
   rw[Dl o]at c ⊢;by_cases p:k=4
   .rw[Dm p]at c ⊢
    simp only[Dv,decide_eq_true_eq]at c;obtain⟨a,rfl⟩:=List.length_eq_one_iff.1 c.2;have e:M3 (gE [a]) 0=(a.kind,a.op,yx a):=rfl;rw[vG,vG]at i;split
    .rw[e]
     simp only[Dn,Dp];omega
    .rename_i t
     have f:=UF c.1.1.1.1 O;have d:=oH 11 (M3 (gE [a]) 0);rw[e]at d;rw[e,Dn];have d:(yx a).length<=(wP 11 (a.kind,a.op,yx a)).length:=d;omega
   rw[Dl p]at c ⊢;by_cases f:k=5
   .rw[Dm f]at c ⊢
    simp only[Dv,decide_eq_true_eq]at c
    obtain⟨a,b,rfl⟩:∃a b,tc=[a,b]:=by
     match tc,c.2 with
     |[a,b],_=>exact⟨a,b,rfl⟩
    have r:M3 (gE [a,b]) 0=(a.kind,a.op,yx a):=rfl;have s:M3 (gE [a,b]) 1=(b.kind,b.op,yx b):=rfl;rw[vG,vG,vG]at i;have d:(yx a).length<=(wP (kL op) (a.kind,a.op,yx a)).length:=oH (kL op) (a.kind,a.op,yx a);have g:(yx b).length<=(wP (kL op+1) (b.kind,b.op,yx b)).length:=oH (kL op+1) (b.kind,b.op,yx b);rw[r,s];simp only[Dn,Dp];omega
   rw[Dl f]at c ⊢;by_cases d:k=6
   .rw[Dm d]at c ⊢
    simp only[Dv,decide_eq_true_eq]at c;obtain⟨a,rfl⟩:=List.length_eq_one_iff.1 c.2;have e:M3 (gE [a]) 0=(a.kind,a.op,yx a):=rfl;rw[vG,vG]at i;rw[e];simp only[Dn,Dp];omega
   rw[Dl d]at c ⊢;by_cases g:k=7
   .rw[Dm g]
    have:=tR tc;simp only[Dn,Dp];omega
   rw[Dl g]at c ⊢;by_cases q:k=8
   .rw[Dm q]at c
    simp only[Dv,decide_eq_true_eq]at c;have:tc=[]:=List.length_eq_zero_iff.1 c.2;subst this;rw[zG];show 0+2<=2*6;omega
   .rw[Dl q]at c
    cases c
theorem oI:∀(l:List Ex) (m:Nat),zr l m=true->zG l<=2*vG l
 |[],_,_=>Dy _
 | e::r,m,h=>by
   rw[qr,Dv]at h;have a:=UG e m h.1;have b:=oI r m h.2;rw[zG,vG];omega
end
theorem uD{tc:List Ex}(h:tc.length=1):vG tc=(iX tc 0).length:=by
 obtain⟨a,rfl⟩:=List.length_eq_one_iff.1 h;show(yx a).length+0=(yx a).length;omega
theorem O6{tc:List Ex}(h:tc.length=2):vG tc=(iX tc 0).length+(iX tc 1).length:=by
 match tc,h with
 |[a,b],_=>
   show(yx a).length+((yx b).length+0)=(yx a).length+(yx b).length;omega
theorem JW{l:List St}{f:Nat->Nat}{n:Nat}(_:f d<=n)(_:f (d+1)<=n):lB l f d<=n+2:=by
 unfold lB;split<;>omega
theorem O7{k g:Int}{td:C2}{tc:List Ex}{b c:Nat}{q:Bool}(a:zj k g td tc.length b c q=true)(o:¬k=6)(p:¬k=7):vG tc+1<=(yN k g td tc).length/\(k=4\/k=5->vG tc+6<=(yN k g td tc).length):=by
 unfold zj at a;unfold yN;by_cases i:k=1
 .rw[Dm i]at a ⊢
  exact Qh
 rw[Dl i]at a ⊢;by_cases l:k=2
 .rw[Dm l]at a ⊢
  exact Qh
 rw[Dl l]at a ⊢;by_cases m:k=3
 .rw[Dm m]at a ⊢
  simp only[Dv,decide_eq_true_eq]at a;rw[O6 a.1.1.2];simp only[Dn,Dp,Du];omega
 rw[Dl m]at a ⊢;by_cases n:k=4
 .rw[Dm n]at a ⊢
  simp only[Dv,decide_eq_true_eq]at a;rw[uD a.2];simp only[Dn,Dp,Du];omega
 rw[Dl n]at a ⊢;by_cases e:k=5
 .rw[Dm e]at a ⊢
  simp only[Dv,decide_eq_true_eq]at a;rw[uD a.1.2];simp only[Dn,Dp,Du];omega
 rw[Dl e,Dl O]at a;rw[Dl e,Dl o,Dl p];by_cases d:k=8
 .rw[Dm (Or.inl d)]at a
  rw[Dm d];exact Qh
 by_cases f:k=9
 .rw[Dm (Or.inr f)]at a
  rw[Dl d,Dm f];exact Qh
 rw[Dl O]at a;rw[Dl d,Dl f];by_cases j:k=10
 .rw[Dm j]at a
  simp only[Dv,decide_eq_true_eq]at a;rw[uD a.1.1.1.2];simp only[Dn,Dp,Du];omega
 .rw[Dl j]at a
  cases a
mutual
theorem UH:∀(t:St) (m d a:Nat),fG t m=true->d+m<=101->xF t d<=104*(QT t a).length
 | .mk k ty td tc tg th,m,d,a,h,hd=>by
   rw[jW]at h;simp only[Dv,decide_eq_true_eq]at h;have y:=oI tc 100 h.1.1.2;have q:=xo tg (m-1) d (a+1) h.1.2 O;have r:=xo tg (m-1) (d+1) (a+1) h.1.2 O;have s:=xo tg (m-1) 0 (a+1) h.1.2 O;have u:=xo tg (m-1) 1 (a+1) h.1.2 O;have o:=xo th (m-1) d (a+1) h.2 O;have p:=xo th (m-1) (d+1) (a+1) h.2 O;have v:lB tg (d0 tg) d<=104*(xV tg (a+1)).length+2:=JW q r;have w:lB tg (d0 tg) 0<=104*(xV tg (a+1)).length+2:=JW s u;have x:lB th (d0 th) d<=104*(xV th (a+1)).length+2:=JW o p;rw[xF,QT];by_cases f:k=6
   .rw[Dl O,Dl O,Dm (Or.inl f)]
    subst f;have e:(yN 6 ty td tc).length=6:=rfl;simp only[Dn,Dp];omega
   by_cases g:k=7
   .rw[Dl O,Dl O,Dm (Or.inr g)]
    subst g;have e:(yN 7 ty td tc).length=9:=rfl;simp only[Dn,Dp];omega
   have j:=O7 h.1.1.1.2 f g;by_cases b:k=4
   .rw[Dm b,Dm b]
    have l:=j.2 (Or.inl b);by_cases i:th.length=0
    .have n:th=[]:=List.length_eq_zero_iff.1 i
     have z:lB th (d0 th) d=0:=by rw[n];rfl
     rw[Dm i];simp only[Dn,Dp,Du];omega
    .rw[Dl i]
     simp only[Dn,Dp,Du];omega
   rw[Dl b,Dl b];by_cases c:k=5
   .rw[Dm c,Dm c]
    have l:=j.2 (Or.inr c);simp only[Dn,Dp,Du];omega
   rw[Dl c,Dl c,Dl O];simp only[Dn,Dp,Du];omega
theorem xo:∀(l:List St) (m d a:Nat),d3 l m=true->d+m<=101->d0 l d<=104*(xV l a).length
 |[],_,_,_,_,_=>Dw _
 | t::r,m,d,a,h,hd=>by
   rw[ji,Dv]at h;have b:=UH t m d a h.1 hd;have c:=xo r m d a h.2 hd;rw[d0,xV,Dn];omega
end
theorem ZL(d:f∈p.funcs):(xV f.body 1).length<=(KZ p).length:=by
 have e:(xV f.body 1).length<=(XY f).length:=by
  unfold XY;simp only[Dn,Dp];omega
 have g:(XY f).length<=((p.funcs.map XY).flatten).length:=by
  obtain⟨a,b,c⟩:=List.append_of_mem d;rw[c];simp only[Yf,Yb,List.flatten_append,List.flatten_cons,Dn];omega
 unfold KZ;rw[Dn];omega
theorem UI(b:eK p=true)(c:f∈p.funcs):d0 f.body 0<=104*(KZ p).length:=by
 unfold eK at b;rw[Dv]at b;have a:=List.all_eq_true.1 b.2 f c;unfold xr at a;simp only[Dv]at a;have d:=xo f.body 100 0 1 a.2 O;have e:=ZL c;omega
structure e4 (p:Pr):Prop where
 ok:eK p=true
 sz:LA p
 n1:p.wa.length<=1000000
 n2:p.funcs.length<=1000000
 cn:∀f∈p.funcs,f.params.length+d4 f.body<=1000000000
 ln:∀f∈p.funcs,d0 f.body 0<=1000000000
theorem qg{α β:Type}{x:PR α}{f:α->List dY->PR β}{b:β}(d:x.bind f=.ok b r):∃a c,x=.ok a c/\f a c=.ok b r:=by
 cases x with
 |ok a c=>exact⟨a,c,rfl,d⟩
 |bad c=>cases d
 |deep c=>cases d
 |o=>cases d
theorem kl{α:Type}{l:List dY}{x:PR α}{a:α}(h:zm k l x)(e:x=.ok a r):qB r/\r.length+k<=l.length:=by
 subst e;exact h.2
theorem oJ{α:Type}{x:PR α}{a:α}(e:vu x=.ok a r):∃d,x=.ok a d:=by
 obtain⟨b,d,f,g⟩:=qg e;obtain⟨_,_,_,c⟩:=qg g;injection c with c _;exact⟨d,c▸f⟩
theorem ZM{n:Nat}{l:List dY}{s:St}(h:q3 n l=.ok s r):uC s=1:=by
 unfold q3 at h;obtain⟨_,_,_,h⟩:=qg h;split at h
 .obtain⟨_,_,_,h⟩:=qg h
  injection h with h _;rw[<-h,uC,d4]
 .split at h
  .obtain⟨_,_,_,h⟩:=qg h
   obtain⟨_,_,_,h⟩:=qg h;obtain⟨_,_,_,h⟩:=qg h;obtain⟨_,_,_,h⟩:=qg h;injection h with h _;rw[<-h,uC,d4]
  .obtain⟨_,_,_,h⟩:=qg h
   obtain⟨_,_,_,h⟩:=qg h;injection h with h _;rw[<-h,uC,d4]
theorem L2:∀(a b:List St),d4 (a++b)=d4 a+d4 b
 |[],b=>by rw[Yy,d4];omega
 |s::r,b=>by rw[Ys,d4,d4,L2 r b];omega
theorem GK:∀n:Nat,(∀d l s r,qB l->pS n d l=.ok s r->uC s+r.length<=l.length)/\(∀d e t l s r,qB l->q5 n d e t l=.ok s r->uC s+r.length<=l.length+1+d4 t)/\(∀d l b r,qB l->pB n d l=.ok b r->d4 b+r.length<=l.length)/\(∀d tk l b r,qB l->nB n d tk l=.ok b r->d4 b+r.length<=l.length+d4 tk)
 |0=>⟨fun d l s r _ a=>(by rw[pS]at a;cases a),fun d e t l s r _ a=>(by rw[q5]at a;cases a),fun d l b r _ a=>(by rw[pB]at a;cases a),fun d tk l b r _ a=>(by rw[nB]at a;cases a)⟩
 | n+1=>by
   obtain⟨z,y,q,u⟩:=GK n;refine⟨fun d l s r c a=>?_,fun d e t l s r c a=>?_,fun d l b r c a=>?_,fun d tk l b r c a=>?_⟩
   .have B:=(kl (q6 (n:=n+1) (d:=d) c) a).2
    rw[pS]at a;split at a
    .cases a
    split at a
    .obtain⟨g,a⟩:=oJ a
     obtain⟨_,_,_,a⟩:=qg a;obtain⟨_,_,_,a⟩:=qg a;obtain⟨_,_,_,a⟩:=qg a;exact Qi
    split at a
    .rename_i k
     obtain⟨e,g,f,a⟩:=qg a;obtain⟨t,A,m,a⟩:=qg a;have j:=zI.sign c k;obtain⟨o,x⟩:=kl (vI j.2.1) f;have v:=q _ _ _ _ o m;have w:=(kl (iA o) m).1;have:=y _ _ _ _ _ _ w a;have:=j.2.2;omega
    split at a
    .rename_i k
     obtain⟨e,g,f,a⟩:=qg a;obtain⟨t,A,m,a⟩:=qg a;have j:=zI.sign c k;obtain⟨o,x⟩:=kl (vI j.2.1) f;have v:=q _ _ _ _ o m;injection a with a i;have:=j.2.2;rw[<-a,<-i,uC,d4];omega
    split at a
    .obtain⟨g,a⟩:=oJ a
     injection a with a _;rw[<-a,uC,d4];omega
    split at a
    .obtain⟨g,a⟩:=oJ a
     injection a with a _;rw[<-a,uC,d4];omega
    split at a
    .obtain⟨g,a⟩:=oJ a
     exact Qi
    split at a
    .obtain⟨g,a⟩:=oJ a
     exact Qi
    .obtain⟨g,a⟩:=oJ a
     have:=ZM a;omega
   .rw[q5]at a
    split at a
    .rename_i k
     obtain⟨D,g,f,a⟩:=qg a;have j:=zI.sign c k;have:=q _ _ _ _ j.2.1 f;have:=j.2.2;injection a with a i;rw[<-a,<-i,uC];omega
    .injection a with a i
     rw[<-a,<-i,uC,d4];omega
   .rw[pB]at a
    obtain⟨_,g,f,a⟩:=qg a;obtain⟨p,C⟩:=kl (zN c _) f;have:=u _ _ _ _ _ p a;rw[d4]at this;omega
   .rw[nB]at a
    split at a
    .rename_i k
     have j:=(zI.sign c k).2.2;injection a with a i;rw[<-a,<-i];omega
    .obtain⟨s,g,f,a⟩:=qg a
     have m:=z _ _ _ _ c f;have p:=(kl (q6 c) f).1;have i:=u _ _ _ _ _ p a;rw[L2,d4,d4]at i;omega
theorem GL:∀(n:Nat) (tk:List Pa) (l:List dY) (ps:List Pa) (r:List dY),qB l->pX n tk l=.ok ps r->ps.length+r.length<=l.length+tk.length
 |0,tk,l,ps,r,_,a=>by rw[pX]at a;cases a
 | n+1,tk,l,ps,r,hl,a=>by
   rw[pX]at a;obtain⟨t,p,e,a⟩:=qg a;obtain⟨i,k⟩:=kl (xx hl) e;obtain⟨s,q,f,a⟩:=qg a;obtain⟨c,m⟩:=kl (jO i 1 Up) f;split at a
   .rename_i j
    have d:=zI.sign c j;have b:=GL n _ _ _ _ d.2.1 a;have:=d.2.2;rw[Dn,D2]at b;omega
   .obtain⟨_,u,b,a⟩:=qg a
    obtain⟨_,o⟩:=kl (zN c _) b;injection a with a g;rw[<-a,<-g,Dn,D2];omega
theorem zbq{n:Nat}{t:Int}{l:List dY}(g:qB l)(c:oZ n t s l=.ok f r):f.params.length+d4 f.body+r.length<=l.length:=by
 unfold oZ at c;obtain⟨ps,o,a,c⟩:=qg c;have k:=(kl (rY g) a).1;obtain⟨b,p,i,c⟩:=qg c;have q:=(GK n).2.2.1 _ _ _ _ k i
 have u:ps.length+o.length<=l.length:=by
  unfold X0 at a;obtain⟨_,w,d,a⟩:=qg a;obtain⟨e,v⟩:=kl (zN g _) d;split at a
  .rename_i m
   have:=(zI.sign e m).2.2;injection a with a j;rw[<-a,<-j,Du];omega
  .have:=GL _ _ _ _ _ e a
   rw[Du]at this;omega
 injection c with c d;rw[<-c,<-d];show ps.length+d4 b+p.length<=l.length;omega
def i4:List Fu->Nat
 |[]=>0
 |f::r=>1+f.params.length+d4 f.body+i4 r
theorem GM:∀(a b:List Fu),i4 (a++b)=i4 a+i4 b
 |[],b=>by rw[Yy,i4];omega
 |s::r,b=>by rw[Ys,i4,i4,GM r b];omega
theorem GN:∀l:List Fu,l.length<=i4 l
 |[]=>Dw _
 |f::r=>by have:=GN r;rw[i4,Dp];omega
theorem GO:∀{l:List Fu}{f:Fu},f∈l->f.params.length+d4 f.body<=i4 l
 | g::r,f,h=>by
   rw[i4];rcases List.mem_cons.1 h with rfl|h
   .omega
   .have:=GO h;omega
theorem tT:∀(n:Nat) (p:Pr) (l:List dY) (q:Pr) (r:List dY),qB l->i1 n p l=.ok q r->q.wa.length+i4 q.funcs+r.length<=l.length+p.wa.length+i4 p.funcs
 |0,p,l,q,r,_,b=>by rw[i1]at b;cases b
 | n+1,p,l,q,r,hl,b=>by
   rw[i1]at b;split at b
   .injection b with b e
    rw[<-b,<-e];omega
   .obtain⟨t,z,e,b⟩:=qg b
    obtain⟨m,w⟩:=kl (xx hl) e;obtain⟨s,A,k,b⟩:=qg b;obtain⟨g,x⟩:=kl (jO m 1 Up) k;split at b
    .rename_i o
     have j:=zI.sign g o.2.2;obtain⟨a,u,d,b⟩:=qg b;obtain⟨i,y⟩:=kl (z0 j.2.1) d;have c:=tT n _ _ _ _ i b;have:=j.2.2;dsimp only at c;rw[Dn,D2]at c;omega
    .obtain⟨f,u,d,b⟩:=qg b
     have v:=zbq g d;have i:=(kl (gR g) d).1;have c:=tT n _ _ _ _ i b;dsimp only at c;rw[GM,i4,i4]at c;omega
theorem uE(a:uH s=true):s.size<=maxLen:=by
 unfold uH xC at a;simp only[Dv,decide_eq_true_eq]at a;have b:s.size<=20:=by simpa using a.1.1.1.2
 unfold maxLen;omega
theorem GP(c:eK p=true):LA p:=by
 unfold eK at c;rw[Dv]at c;refine⟨fun a e=>?_,fun f g=>?_⟩
 .have b:=List.all_eq_true.1 c.1 a e
  unfold ud at b;rw[Dv]at b;exact uE b.1
 .have b:=List.all_eq_true.1 c.2 f g
  unfold xr at b;simp only[Dv]at b;refine⟨uE b.1.1.1.1,fun x i=>?_⟩;have d:=List.all_eq_true.1 b.1.2 x i;unfold vk at d;rw[Dv]at d;exact uE d.1
theorem UJ(a:yc s=(p,0,ln)):s.size<=100000/\∃c r,qE s.data.toList 1=(c,none)/\kg c=.ok p r/\eK p=true:=by
 by_cases f:100000<s.size
 .rw[oF f]at a
  simp at a
 .cases hn:(qE s.data.toList 1).2 with
  |some l=>
    rw[DC O hn]at a;simp at a
  |none=>
    have b:=oG hn;rw[hI O b]at a;unfold JV at a;cases hp:kg (qE s.data.toList 1).1 with
    |ok q r=>
      rw[hp]at a;dsimp only at a;split at a
      .rename_i d
       have e:q=p:=congrArg Prod.fst a;subst e;exact⟨O,_,r,b,hp,d⟩
      .simp at a
    |bad r=>rw[hp]at a;simp at a
    |deep r=>rw[hp]at a;simp at a
    |o=>
      have x:=ym (kU _ _ _ _ Zr b);rw[hp]at x;exact x.elim
theorem O8{k:Int}(a:yc s=(p,k,ln))(c:k≠0):p=xT:=by
 by_cases d:100000<s.size
 .rw[oF d]at a
  exact(congrArg Prod.fst a).symm
 .cases hn:(qE s.data.toList 1).2 with
  |some l=>
    rw[DC O hn]at a;exact(congrArg Prod.fst a).symm
  |none=>
    have b:=oG hn;rw[hI O b]at a;unfold JV at a;cases hp:kg (qE s.data.toList 1).1 with
    |ok q r=>
      rw[hp]at a;dsimp only at a;split at a
      .exact absurd (congrArg (fun x=>x.2.1) a).symm c
      .exact(congrArg Prod.fst a).symm
    |bad r=>rw[hp]at a;exact(congrArg Prod.fst a).symm
    |deep r=>rw[hp]at a;exact(congrArg Prod.fst a).symm
    |o=>rw[hp]at a;exact(congrArg Prod.fst a).symm
theorem O9(g:yc s=(p,0,ln)):e4 p:=by
 obtain⟨_,_,r,b,e,c⟩:=UJ g;have i:=kU _ _ _ _ Zr b;have l:=(e9 _ _ _ _ Zr b).2;have o:s.data.toList.length=s.size:=Ur
 have a:=tT _ _ _ _ _ i e;rw[i4]at a;have n:([]:List Ar).length=0:=rfl;have m:=GN p.funcs;refine⟨c,GP c,?_,?_,fun f d=>?_,fun f d=>?_⟩
 .simp at a;omega
 .simp at a;omega
 .have:=GO d;simp at a;omega
 .have j:=UI c d
  have k:=JU b e;omega
theorem L3{a:C3}(h:Below B a w)(n:Nat):Below B a (w.drewN n):=h.trans ⟨rfl,rfl,rfl,Dy _,fun _ _=>rfl⟩
theorem PA{a:List Int}{c:Int}(d:a.take k=b.take k)(f:a[k]?=some x)(g:b[k]?=some c)(e:x=c):a.take (k+1)=b.take (k+1):=by
 rw[Yr,Yr,d,f,g,e]
theorem UK{a:List Int}{d:Int}(c:a[k]?=some x)(g:b[k]?=some d)(e:x≠d):decide (a=b)=false:=by
 refine decide_eq_false fun f=>e ?_
 rw[f,g]at c;injection c with c;exact c.symm
theorem UL{a:List Int}(d:a.length=b.length)(c:a.take a.length=b.take a.length):decide (a=b)=true:=by
 rw[Y9,d,Y9]at c;exact decide_eq_true c
theorem UM(B:Nat)(a b:List Int)(C D:C4)(z:Bool)(y:decide (a=b)=z)(w:C3)(_:B<=w.heap.size)(n:wJ B w C a)(p:wJ B w D b):
 Cy 30 #[C,D] w (Cv z w):=by
 obtain⟨_,c,rfl,_⟩:=n.form;obtain⟨_,_,rfl,_⟩:=p.form;have E:=U n;have F:=U p;have l:=U y;clear n p y;go_enter func30,ntmps30;by_cases i:a.length=b.length
 .have j:=U i
  have L:((a.length:Int) != (b.length:Int))=false:=by simp[i]
  clear i;go_wp2_with fail
  go_loopw [5] (fun iv wr=>∃k m:Nat,k<=a.length/\iv=.int .i64 (k:Int)/\a.take k=b.take k/\wr=w.drewN m) (fun iv _=>a.length-(intOf iv).toNat)
  case atStart=>exact⟨0,0,Dw _,rfl,rfl,rfl⟩
  case round=>
   obtain⟨k,m,_,rfl,v,rfl⟩:=hrel;have s:=U v;clear v;by_cases M:k<a.length
   .obtain⟨x,q⟩:∃e,a[k]?=some e:=⟨_,Dz M⟩
    obtain⟨f,r⟩:∃e,b[k]?=some e:=⟨_,Dz (by have:=j.o;omega)⟩
    obtain⟨g,o,rfl,_,_⟩:=E.o.cells q;obtain⟨G,_,rfl,_,_⟩:=F.o.cells r;have Q:k<b.length:=by have:=j.o;omega
    have N:g<w.heap.size:=O
    have P:G<w.heap.size:=O
    have t:=U q;have u:=U r;clear q r;by_cases d:x=f
    .have I:(x == f)=true:=by simp[d]
     have J:(x != f)=false:=by simp[d]
     go_wp2_with fail
     go_quiet (fail)
     go_wp2_with fail;go_roundw
     case rel=>exact⟨k+1,_,O,by go_num,PA s.o t.o u.o d,rfl⟩
     case measure=>simp[intOf];omega
    .have I:(x == f)=false:=by simp[d]
     have J:(x != f)=true:=by simp[d]
     go_wp2_with fail
     go_quiet (fail)
     go_wp2_with fail;go_ret;exact⟨zC (by rw[<-l.o,UK t.o u.o d]),L3 (L3 Zb _) _⟩
   .have K:k=a.length:=by omega
    subst K;go_wp2_with fail;go_ret;exact⟨zC (by rw[<-l.o,UL j.o s.o]),L3 Zb _⟩
 .have L:((a.length:Int) != (b.length:Int))=true:=by simp;omega
  go_wp2_with fail;go_ret;exact⟨zC (by rw[<-l.o,decide_eq_false (fun H=>i (by rw[H]))]),D1 _ _⟩
theorem GQ{e:TypeId}{j n:Nat}{k:List C4}(i:w.ownsRow B e j v n k):∀b m c,v=.slice b m c->m<=c:=by
 rintro b m c rfl;rcases i.2 with⟨a,_⟩|⟨g,_,_,a,_,_,_,_⟩
 .injection a with _ d f
  omega
 .injection a with _ d f
  omega
def JX(B:Nat)(w:C3)(v:C4)(r:Int×Int×List Int×Nat×Nat):Prop:=
 ∃vo,v=.agg #[(r.1:Int),(r.2.1:Int),vo,((r.2.2.2.1:Int):Int),((r.2.2.2.2:Int):Int)]/\wJ B w vo r.2.2.1/\∀A n c,vo=.slice A n c->n<=c
theorem JX.below{a:Nat}{w':C3}{r:Int×Int×List Int×Nat×Nat}(b:JX B w v r)(g:Below B w w')(f:B<=a):JX a w' v r:=by
 obtain⟨vo,c,d,e⟩:=b;exact⟨vo,c,d.below g f,e⟩
end Go.Proofs.YthcmenajdcbnnaaGreatDoor
namespace Go.Proofs.YthcmenajdcbnnaaGreatDoor
open Go.RowKit Tryz Go.Maps
variable{l b q:List Int}{k ln d B j:Nat}{s:C2}{op n a x:Int}{p:Pr}{f fu:Fu}{r:List dY}{w:C3}{v:C4}{τ:Nat->Lb}{G:Gm}{m:Vm}
theorem BA:∀(vs:d2) (x:C2×Int) (s:C2),jf (vs++[x]) s=if x.1=s then some vs.length else jf vs s
 | [],x,s=>by
   show(match jf [] s with|some k=>some (k+1)|none=>if x.1=s then some 0 else none)=_;rfl
 | y::r,x,s=>by
   rw[Ys,jf,BA r x s];by_cases h:x.1=s
   .simp only[Dm h]
    rfl
   .simp only[Dl h]
    rfl
theorem yd{vs:d2}(h:jf vs s=some k):k<vs.length:=YV h
theorem GR(vs:d2)(tm:List Nat)(b:tm.length=vs.length)(x:C2×Int)(l:Nat)(s:C2):eV (vs++[x]) (tm++[l]) s=OM (eV vs tm) x.1 (.pointer (some ⟨l,0,none⟩)) s:=by
 unfold eV OM;rw[BA];by_cases a:x.1=s
 .rw[Dm a,Dm a.symm]
  dsimp only;rw[<-b,Yi Zr,Yx];rfl
 .rw[Dl a,Dl (fun e=>a e.symm)]
  dsimp only;cases he:jf vs s with
  |none=>rfl
  |some k=>
    dsimp only;rw[Yn (by have:=yd he;omega)]
theorem UN{vs:d2}{tm:List Nat}{n:Nat}(s:C2)(_:n<=vs.length):eV (vs.take n) (tm.take n) s=eV (vs.take n) tm s:=by
 unfold eV;cases he:jf (vs.take n) s with
 |none=>rfl
 |some k=>
   have a:=yd he;rw[Yc]at a;dsimp only;rw[Y5,Dm O]
section
variable {G:Gm} {τ τ':Nat->Lb} {w w':C3}{m:Vm}{vi vv pa vo:C4}
theorem eS.relab(a:eS G τ w m vi vv pa vo)(e:Cx w w')(c:e3 τ τ' w):eS G τ' w' m vi vv pa vo:=by
 have b:d1 (fun k=>XN (τ k)) w w':=d1.wb _ e;have f:=e.mono a.hB;exact(a.step (X:=XN) (m':=m) b c id ⟨id,id⟩ ((e.block _ a.lt).trans a.box) (a.inp.below f Zr) (a.val.keep (X:=XN) b c id) (a.o.keep (X:=XN) b c id) (a.frs.keep (X:=XN) b c f ⟨id,fun d _=>⟨id,id,fun i=>⟨id,id⟩⟩⟩ Zr) (a.arr.keep (X:=XN) b c ⟨id,fun _=>id⟩) a.nv a.ni a.no a.lim).1
theorem eS.called(j:eS G τ w m vi vv pa vo){wr:C3}{q l:List Int}{a:Option Addr}{n c mp:Nat}(af:vv=.slice a n c)(z:m.v=q++l)(t:Cx w wr)(S:e3 τ τ' w){fu:Fu}{td:C2}(V:jN G.p td=some fu){aj f:C4}(W:G.fv td=.agg #[aj,f])(_:l.length=fu.params.length)
 {tm:List Nat} (Y:tm.length=l.length) (y:eI wr mp l.length (.pointer none) (eV (d7 fu l) tm)) (aa:τ' mp=.vmap m.cs.length 0) (ab:w.heap.size<=mp) (R:∀i b x,tm[i]?=some b->l[i]?=some x->w.heap.size<=b/\τ' b=.cel m.cs.length i/\wr.heap[b]?=some (.cells #[(x:Int)] 3)):
 (∃τ,MW G τ (((wr.setCell (G.b,3) (a,q.length,c)).alloc (FY f 0 mp (.slice none 0 0) pa)).setCell (G.b,4) (wr.heap.size,0)) ⟨m.s,q,⟨eW fu,0,d7 fu l,[]⟩::m.cs⟩)/\
 Below G.B w (((wr.setCell (G.b,3) (a,q.length,c)).alloc (FY f 0 mp (.slice none 0 0) pa)).setCell (G.b,4) (wr.heap.size,0)):=by
 have al:=j.lt;have e:=j.relab t S;have ak:=t.size;have r:=e.val;rw[af,z]at r;obtain⟨_,c',ag⟩:=r.form;injection ag with J K L;subst J L;rw[K]at r;obtain⟨C,N⟩:=e.wt (m':=⟨m.s,q,m.cs⟩) 3 (.slice a q.length c) (D0 e.box _) e.inp r.cut e.o e.frs rfl (fun n ad=>e.nv n (by rw[z];exact List.mem_append_left _ ad)) e.ni e.no e.lim;have A:(wr.setCell (G.b,3) (a,q.length,c)).heap.size=wr.heap.size:=Uu
 have D:Below (wr.setCell (G.b,3) (a,q.length,c)).heap.size (wr.setCell (G.b,3) (a,q.length,c)) ((wr.setCell (G.b,3) (a,q.length,c)).alloc (FY f 0 mp (.slice none 0 0) pa)):=Zb.alloc Zr _;have d:=C.relab D (e3.lbl τ' _ (.frm m.cs.length) (by rw[A];exact Dy wr.heap.size));have ae:((wr.setCell (G.b,3) (a,q.length,c)).alloc (FY f 0 mp (.slice none 0 0) pa)).heap[wr.heap.size]?=some (FY f 0 mp (.slice none 0 0) pa):=by have:=Dq (wr.setCell (G.b,3) (a,q.length,c)) (FY f 0 mp (.slice none 0 0) pa);rw[A]at this;exact this
 have E:∀k,w.heap.size<=k->k<wr.heap.size->((wr.setCell (G.b,3) (a,q.length,c)).alloc (FY f 0 mp (.slice none 0 0) pa)).heap[k]?=wr.heap[k]?:=fun k _ X=>(D3 _ _ k (by rw[A];exact X)).trans (Dx wr _ _ k (by show k≠G.b;omega))
 obtain⟨_,_,hF⟩:=d.wz;obtain⟨_,_,f1,_,f3⟩:=hF td fu V;rw[W]at f1;simp only[Value.agg.injEq,Array.mk.injEq,Y7,and_true]at f1;obtain⟨rfl,rfl⟩:=f1;have F:(d7 fu l).length=l.length:=by unfold d7;rw[List.length_zip,Yd];omega
 have H:∀(i:Nat) (x:C2×Int),(d7 fu l)[i]?=some x->l[i]?=some x.2:=fun i x g=>by
  unfold d7 at g;rw[List.getElem?_zip_eq_some]at g;exact g.2
 have T:H6 G.B (TH τ' wr.heap.size (.frm m.cs.length)) ((wr.setCell (G.b,3) (a,q.length,c)).alloc (FY f 0 mp (.slice none 0 0) pa)) (.pointer (some ⟨wr.heap.size,0,none⟩)) (⟨eW fu,0,d7 fu l,[]⟩::m.cs):=by
  refine⟨wr.heap.size,pa,f,mp,.slice none 0 0,tm,[],rfl,⟨ae,fS _ _ _,f3,by rw[Y];exact F.symm,fun i b x u g=>?_,⟨?_,?_⟩,rfl,Ym _ _ _ _,fun b u=>(by cases u),fun i m k Z=>(by cases Z),Ur⟩,d.frs⟩
  .obtain⟨ah,ai,I⟩:=R i b x.2 u (H i x g)
   have Q:=zB I;exact⟨(fT τ' _ O).trans ai,(E b ah Q).trans I,j.nv x.2 (by rw[z];exact Yw _ (Ye (H i x g)))⟩
  .exact(fT τ' _ (by have:=y.lt;omega)).trans aa
  .rw[F]
   exact y.wd (E mp ab y.lt)
 obtain⟨M,P⟩:=d.wt (m':=⟨m.s,q,⟨eW fu,0,d7 fu l,[]⟩::m.cs⟩) 4 (.pointer (some ⟨wr.heap.size,0,none⟩)) (D0 d.box _) d.inp d.val d.o T rfl d.nv d.ni d.no d.lim;exact⟨⟨_,_,_,_,_,M⟩,(((t.mono j.hB).trans N).trans (D.mono C.hB)).trans P⟩
end
theorem ZN(w:C3):(zeroValue 120).run Tryz.prog w=.ok (.agg #[(),()]) w:=by kernel_rfl
abbrev PB(b a:C4):Obj:=.cells #[b,a] 120
theorem zbr(a:eK p=true)(d:f∈p.funcs):f.params.length<=8/\∀x∈f.params,x.name.size<=maxLen:=by
 refine⟨((IP a) f d).1,fun x e=>?_⟩;unfold eK at a;rw[Dv,Yv,Yv]at a;have b:=a.2 f d;unfold xr at b;simp only[Dv,decide_eq_true_eq,Yv]at b;have c:=b.1.2 x e;unfold vk at c;simp only[Dv]at c;exact uE c.1
theorem H6.ptr{l:List Fr}(b:H6 B τ w v l):∃p,v=.pointer p:=by
 cases l with
 |nil=>exact⟨_,b⟩
 |cons c r=>
   obtain⟨a,pa,_,mp,vo,tm,_,d,_⟩:=b;exact⟨_,d⟩
structure DD (w wr:C3) (τ τr:Nat->Lb) (d:Nat) (l:List Int) (fu:Fu) (mp j:Nat) (locs:List Nat):Prop where
 len:locs.length=j
 ext:e3 τ τr w
 map:eI wr mp j (.pointer none) (eV ((d7 fu l).take j) locs)
 cell:∀i b x,locs[i]?=some b->l[i]?=some x->w.heap.size<=b/\τr b=.cel d i/\wr.heap[b]?=some (.cells #[(x:Int)] 3)
 lab:τr mp=.vmap d 0
theorem DD.next{wr W m:C3}{τr:Nat->Lb}{mp:Nat}{tm:List Nat}(c:DD w wr τ τr d l fu mp j tm)(_:w.heap.size<=wr.heap.size)(q:Cx wr W){x:Pa}(r:fu.params[j]?=some x)(n:l[j]?=some a)
 (A:eI m mp (j+1) (.pointer none) (OM (eV ((d7 fu l).take j) tm) x.name (.pointer (some ⟨W.heap.size,0,none⟩)))) (C:m.heap[W.heap.size]?=some (.cells #[(a:Int)] 3)) (D:d1 (fun k=>k=mp) W m):
 DD w m τ (TH τr W.heap.size (.cel d j)) d l fu mp (j+1) (tm++[W.heap.size]):=by
 have M:=q.size;have L:=c.map.lt
 have E:(d7 fu l).take (j+1)=(d7 fu l).take j++[(x.name,a)]:=by
  have:(d7 fu l)[j]?=some (x.name,a):=by
   unfold d7;rw[List.getElem?_zip_eq_some,Yl,r];exact⟨rfl,n⟩
  rw[Yr,this];rfl
 have K:j<(d7 fu l).length:=by
  unfold d7;have I:=(List.getElem?_eq_some_iff.1 r).1;have J:=(List.getElem?_eq_some_iff.1 n).1;rw[List.length_zip,Yd];omega
 have F:((d7 fu l).take j).length=j:=Kc
 refine⟨by rw[Dn,c.len];rfl,fun k z=>(fT τr _ O).trans (c.ext k z),A.congr fun s=>by rw[E];exact GR _ _ (by rw[c.len,F]) (x.name,a) _ s,fun i b H f g=>?_,(fT τr _ O).trans c.lab⟩;rcases Cc i tm.length with o|o
 .rw[Yn o]at f
  obtain⟨G,p,t⟩:=c.cell i b H f g;have v:=zB t;have B:b≠mp:=fun e=>by rw[e,c.lab]at p;cases p
  exact⟨G,(fT τr _ O).trans p,(D.block b O B).trans ((q.block b v).trans t)⟩
 .rw[Yi o]at f
  have u:i-tm.length=0:=by
   have:=(List.getElem?_eq_some_iff.1 f).1;simp at this;omega
  rw[u]at f;simp at f;subst f;have y:i=j:=by have:=c.len;omega
  subst y;rw[n]at g;injection g with g;subst g;exact⟨O,fS _ _ _,C⟩
theorem BB(be:MW G τ w m)(aa:m.v=q++l)(_:q.length<=2000000000){td:C2}(J:jN G.p td=some fu)(bb:l.length=fu.params.length)(bg:td.size<=maxLen):
 Cy 69 #[(G.b,0),td] w (gI G w ⟨m.s,q,⟨eW fu,0,d7 fu l,[]⟩::m.cs⟩ (.tuple #[])):=by
 obtain⟨vi,vv,pa,vo,u⟩:=be;obtain⟨_,rfl⟩:=u.frs.ptr;obtain⟨_,⟨_,aq⟩,hF⟩:=u.wz;obtain⟨_,_,X,Z,a6⟩:=hF td fu J;have bc:=aq.look (t:=70) underlying70 (ZN w) bg;rw[X]at bc;obtain⟨r,n,bk,_⟩:=Z.form;subst bk;obtain⟨az,c,L⟩:=u.val.form;have an:m.v.length=q.length+l.length:=by rw[aa,Dn]
 rw[an]at L;obtain⟨_,av⟩:=zbr u.pok (uv J);obtain⟨⟨aP,aQ,aR,R,aS,aT,aU,aV,aW,aX⟩,aY⟩:=zJ u.box;have ao:=u.lt;rw[L]at R;have bR:IntKind.i64.wrap (((q.length+l.length:Nat):Int)-(fu.params.length:Int))=(q.length:Int):=Ux
 have H:=U u;have aK:=U Z;have F:=U L;have Q:=U aa;have aE:=U J;have aF:=U X;have E:=U bb;have aI:=U av;obtain⟨d,f,bj,_⟩:=a6;subst bj;clear u Z L aa J X av aq hF an;have bO:=@run_makeMap Tryz.prog;have bm:=Dq w (PB (.slice r fu.params.length n) (.slice d (eW fu).length f));have N:(w.alloc (PB (.slice r fu.params.length n) (.slice d (eW fu).length f))).heap.size=w.heap.size+1:=zA _ _;have ag:Cx w ((w.alloc (PB (.slice r fu.params.length n) (.slice d (eW fu).length f))).alloc (.map #[] 0)).drew:=(((D1 w.heap.size w).alloc Zr _).alloc (by rw[N];omega) _).drew;have af:eI ((w.alloc (PB (.slice r fu.params.length n) (.slice d (eW fu).length f))).alloc (.map #[] 0)).drew (w.heap.size+1) 0 (.pointer none) (eV [] []):=(N▸oC (w.alloc (PB (.slice r fu.params.length n) (.slice d (eW fu).length f))) (.pointer none):eI ((w.alloc (PB (.slice r fu.params.length n) (.slice d (eW fu).length f))).alloc (.map #[] 0)) (w.heap.size+1) 0 (.pointer none) (eV [] [])).wd rfl;have aw:((w.alloc (PB (.slice r fu.params.length n) (.slice d (eW fu).length f))).alloc (.map #[] 0)).drew.heap[w.heap.size]?=some (PB (.slice r fu.params.length n) (.slice d (eW fu).length f)):=(D3 _ _ _ (by rw[N];omega)).trans bm
 have ab:((w.alloc (PB (.slice r fu.params.length n) (.slice d (eW fu).length f))).alloc (.map #[] 0)).drew.heap.size=w.heap.size+2:=by
  show((w.alloc (PB (.slice r fu.params.length n) (.slice d (eW fu).length f))).alloc (.map #[] 0)).heap.size=_;rw[zA,N]
 have aB:=U ag;have aG:=U af;have aM:=U aw;clear ag af aw;go_enter func69,ntmps69;go_wp2_with fail
 go_region
 go_wp2_with fail;generalize((w.alloc (PB (.slice r fu.params.length n) (.slice d (eW fu).length f))).alloc (.map #[] 0)).drew=W1 at *;have bS:=Dt ab;have bT:=Dt ab.symm;clear ab
 go_loopw [28] (fun iv wr=>∃(j:Nat) (tm:List Nat) (τr:Nat->Lb),j<=l.length/\iv=.int .i64 (j:Int)/\Cx w wr/\DD w wr τ τr m.cs.length l fu (w.heap.size+1) j tm/\wr.heap[w.heap.size]?=some (PB (.slice r fu.params.length n) (.slice d (eW fu).length f))) (fun iv _=>l.length-(intOf iv).toNat)
 case atStart=>exact⟨0,[],TH τ (w.heap.size+1) (.vmap m.cs.length 0),Dw _,rfl,aB.o,⟨rfl,e3.lbl τ w _ O,aG.o,(fun i b x a3=>by cases a3),fS _ _ _⟩,aM.o⟩
 case round=>
  obtain⟨j,tm,τr,_,rfl,ai,al,M⟩:=hrel;have D:=U ai;have y:=U al;have aN:=U M;have bl:w.heap.size<wr.heap.size:=zB M;obtain⟨⟨_,_⟩,_⟩:=zD M;clear ai al M;by_cases bd:j<l.length
  .obtain⟨x,C⟩:∃x,fu.params[j]?=some x:=⟨_,Dz (by have:=E.o;omega)⟩
   obtain⟨a,T⟩:∃a,l[j]?=some a:=⟨_,Dz bd⟩
   have a5:=D.o.mono H.o.hB;obtain⟨ae,op,rfl,_,_,_⟩:=(aK.o.below a5 Zr).cells C;have bC:ae<wr.heap.size:=by have:=H.o.hB;omega
   have bJ:j<fu.params.length:=(List.getElem?_eq_some_iff.1 C).1;have A:Cx wr (wr.alloc (.cells #[x.name,(x.type:Int)] 100)):=Zb.alloc Zr _;have bP:(wr.alloc (.cells #[x.name,(x.type:Int)] 100)).heap.size=wr.heap.size+1:=zA _ _;have Y:(wr.alloc (.cells #[x.name,(x.type:Int)] 100)).heap[wr.heap.size]?=some (.cells #[x.name,(x.type:Int)] 100):=Dq wr _;go_upto_region 6 with fail;generalize wr.alloc (.cells #[x.name,(x.type:Int)] 100)=W at *;have I:Cx w W:=D.o.trans (A.mono O)
   obtain⟨ad,rfl,a8,bi⟩:∃g,az=some ⟨g,0,none⟩/\g<w.heap.size/\w.cell? ⟨g,q.length+j,none⟩=some (.int .i64 a):=by
    have z:=H.o.val.1;rw[F.o]at z;obtain⟨g,_,S,_,a0,_,a1,_⟩:=vV z (by rw[Q.o,Dn];omega);injection S with S _ _;refine⟨g,S,a0,a1 _ _ ?_⟩;rw[Q.o,Yf,Yi Ur,Yd,show q.length+j-q.length=j by omega,Yl,T];rfl
   have bo:=(I.cell (p:=(G.b,3)) ao).trans R;have bp:=(I.cell (p:=(ad,q.length+j)) a8).trans bi;obtain⟨⟨bu,bv⟩,bw⟩:=zD Y;have bx:=zB Y;have bM:G.b<W.heap.size:=O
   have bA:ad<W.heap.size:=O
   have bG:j<q.length+fu.params.length:=O
   have bI:q.length+j<q.length+fu.params.length:=O
   have bH:(q.length:Int)+(j:Int)<(q.length:Int)+(fu.params.length:Int):=O
   have bQ:IntKind.i64.wrap ((q.length:Int)+(j:Int))=((q.length+j:Nat):Int):=Ux
   have bD:(0 :Int)<=(q.length:Int)+(j:Int):=O
   have bK:((q.length:Int)+(j:Int)).toNat=q.length+j:=O
   have bF:¬((q.length:Int)+(j:Int)<0):=O
   go_still_tail 12,(by kernel_rfl)
   repeat still_step
   change wpList _ _ _ _ _ W.drew;have ar:eI W.drew (w.heap.size+1) j (.pointer none) (eV ((d7 fu l).take j) tm):=y.o.map.wd (A.block _ y.o.map.lt);have aH:=U ar;have aJ:=U A;have aC:=U I;have bn:x.name.size<=maxLen:=aI.o x (Ye C);have aL:=U C;have aA:=U T;have aO:=U ((A.block _ bl).trans aN.o);have a9:j<=2000000000:=O
   clear A I Y C T bu bv bw bo bp ar
   go_wp2_with (go_at_call 92;(with_reducible refine(AW aH.o a9 x.name bn a).mono ?_);rintro e ay ⟨rfl,ap,au,K,bh⟩
                have ax:ay.heap[w.heap.size]?=some (PB (.slice (some ⟨ae,op,none⟩) fu.params.length n) (.slice d (eW fu).length f)):=(K.block _ (show w.heap.size<W.heap.size by omega) (fun(e:w.heap.size=w.heap.size+1)=>O)).trans aO.o;have ah:Cx w ay:=aC.o.trans (((d1.drew (fun k=>k=w.heap.size+1) W).trans K fun _ _ u=>u).below (B:=w.heap.size) (show w.heap.size<=W.heap.size by omega) fun k _ (e:k=w.heap.size+1)=>O);have am:=y.o.next O aJ.o aL.o aA.o ap au ((d1.drew (fun k=>k=w.heap.size+1) W).trans K fun _ _ u=>u);have P:=U (Do ah (Do am ax))
                clear ap au K bh ax ah am)
   go_roundw
   case rel=>exact⟨j+1,_,_,O,by go_num,P.o.1,P.o.2.1,P.o.2.2⟩
   case measure=>simp[intOf];omega
  .have ba:j=l.length:=by omega
   subst ba;have bf:(d7 fu l).length=l.length:=by unfold d7;rw[List.length_zip,Yd];have:=E.o;omega
   have V:=(D.o.block _ ao).trans H.o.box;rw[F.o]at V;have a7:eI wr (w.heap.size+1) l.length (.pointer none) (eV (d7 fu l) tm):=y.o.map.congr fun s=>by rw[D9 (Dt bf)]
   have ak:=H.o.called (τ':=τr) (mp:=w.heap.size+1) (tm:=tm) (wr:=wr) F.o Q.o D.o y.o.ext aE.o aF.o E.o y.o.len a7 y.o.lab (Cd _) y.o.cell;have aD:=U ak;obtain⟨⟨_,_,_,aZ,_,_,_,_,_,_⟩,_⟩:=zJ V;rw[E.o]at aZ;have bN:G.b<wr.heap.size:=O
   have bL:q.length<=c:=by
    have z:=H.o.val.1;rw[F.o]at z;have:=GQ z _ _ _ rfl;omega
   clear V ak aP aQ aR R aS aT aU aV aW aX aY;go_wp2_with fail
   go_region
   all_goals go_wp2_with fail
   all_goals go_end0
   all_goals
    have aj:=aD.o;rw[World.setCell_alloc_past _ _ _ _ (by show G.b<(wr.setCell _ _).heap.size;simp[World.setCell];omega)]at aj;obtain⟨⟨τ9,bq,br,bs,bt,a2⟩,a4⟩:=aj;exact⟨rfl,⟨τ9,bq,br,bs,bt,a2.drew⟩,a4.drew⟩
section
variable {G:Gm}{τ:Nat->Lb}{w:C3}{m:Vm}{vi vv pa vo:C4}
theorem eS.pay(a:eS G τ w m vi vv pa vo)(c:m.s.cost+1+m.s.fuel<=1000000000):
 eS G τ (w.setCell (G.b,8) (((m.s.cost:Int)+1):Int)) ⟨zl m.s,m.v,m.cs⟩ vi vv pa vo/\Below G.B w (w.setCell (G.b,8) (((m.s.cost:Int)+1):Int)):=
 a.wt (m':=⟨zl m.s,m.v,m.cs⟩) 8 (.int .i64 ((m.s.cost:Int)+1)) (D0 a.box _) a.inp a.val a.o a.frs rfl a.nv a.ni (Nat.le_succ_of_le a.no) c
theorem pG.cells{B:Nat}{v:C4}{k op n:Int}{td:C2}{tc:List Ex}(d:pG B w v (.mk k op n td tc)):
 ∃g o,v=.pointer (some ⟨g,o,none⟩)/\g<B/\w.cell? ⟨g,o,none⟩=some (.int .i64 k)/\w.cell? ⟨g,o+1,none⟩=some (.int .i64 op)/\w.cell? ⟨g,o+2,none⟩=some (.int .i64 n)/\w.cell? ⟨g,o+3,none⟩=some (.string td)/\eF n/\∃c,w.cell? ⟨g,o+4,none⟩=some c/\xA B w c tc:=by
 obtain⟨g,o,rfl,b⟩:=d;rw[y3]at b;obtain⟨a,e,f,i,l,v,j,m⟩:=b;exact⟨g,o,rfl,a.1,a.2,e.2,f.2,i.2,l,v,j.2,m⟩
theorem oD.cells{B:Nat}{v:C4}{k c:Int}{td:C2}{tc:List Ex}{tg th:List St}(i:oD B w v (.mk k c td tc tg th)):
 ∃g o,v=.pointer (some ⟨g,o,none⟩)/\g<B/\w.cell? ⟨g,o,none⟩=some (.int .i64 k)/\w.cell? ⟨g,o+1,none⟩=some (.int .i64 c)/\w.cell? ⟨g,o+2,none⟩=some (.string td)/\(∃d,w.cell? ⟨g,o+3,none⟩=some d/\xA B w d tc)/\(∃f,w.cell? ⟨g,o+4,none⟩=some f/\eN B w f tg)/\∃e,w.cell? ⟨g,o+5,none⟩=some e/\eN B w e th:=by
 obtain⟨g,o,rfl,b⟩:=i;rw[ED]at b;obtain⟨a,j,l,⟨t,m,q⟩,⟨u,n,r⟩,x,p,s⟩:=b;exact⟨g,o,rfl,a.1,a.2,j.2,l.2,⟨t,m.2,q⟩,⟨u,n.2,r⟩,x,p.2,s⟩
end
theorem tU(f:MW G τ w m){k:Int}{td:C2}{tc:List Ex}(d:pG G.B w v (.mk k op n td tc))(t:k=1\/k=2)(u:m.v.length<=2000000000):
 Cy 94 #[(G.b,0),v] w (gI G w ⟨m.s,m.v++[n],m.cs⟩ (.tuple #[])):=by
 obtain⟨g,o,rfl,_,_,_,_,_,j,_⟩:=d.cells;have p:=U f;have r:=U j;obtain⟨vi,vv,pa,vo,a⟩:=f;have z:=a.lt;have x:=a.hB;have y:g<w.heap.size:=O
 clear a d j;rcases t with rfl|rfl
 all_goals
  go_enter func94,ntmps94
  go_wp2_with (first
   | (go_at_call 97;(with_reducible refine(yb p.o n r.o u).mono ?_);rintro e _ ⟨rfl,i,c⟩
      have q:=U i;have l:=U c
      clear i c))
  go_end0
  exact⟨rfl,q.o,l.o⟩
theorem tV(w:C3):(zeroValue 177).run Tryz.prog w=.ok (.pointer none) w:=by kernel_rfl
theorem rH.var{a:Nat}{pa:C4}{c:Fr}{p:C4}{mp:Nat}{vo:C4}{tm l:List Nat}(i:rH B τ w d a pa c p mp vo tm l){td:C2}(f:jf c.vs td=some j):
 ∃b x,tm[j]?=some b/\c.vs[j]?=some x/\eV c.vs tm td=.pointer (some ⟨b,0,none⟩)/\τ b=.cel d j/\w.heap[b]?=some (.cells #[(x.2:Int)] 3)/\eF x.2/\o0 c.vs td=x.2:=by
 have k:=yd f;obtain⟨b,e⟩:∃b,tm[j]?=some b:=⟨_,Dz (by rw[i.ll];exact k)⟩
 obtain⟨x,g⟩:∃x,c.vs[j]?=some x:=⟨_,Dz k⟩
 obtain⟨m,n,o⟩:=i.cell j b x e g;refine⟨b,x,e,g,?_,m,n,o,?_⟩
 .unfold eV
  rw[f];dsimp only;rw[e]
 .unfold o0
  rw[f];dsimp only;rw[g];rfl
theorem JY(A:MW G τ w m){td:C2}{tc:List Ex}(q:pG G.B w v (.mk 3 op n td tc)){c:Fr}{r:List Fr}(p:m.cs=c::r)(z:jf c.vs td=some j)(D:td.size<=maxLen)(K:m.v.length<=2000000000):
 Cy 94 #[(G.b,0),v] w (gI G w ⟨m.s,m.v++[o0 c.vs td],m.cs⟩ (.tuple #[])):=by
 obtain⟨g,o,rfl,_,_,_,_,_,_,_⟩:=q.cells;have P:=U A;obtain⟨vi,vv,pa,vo,d⟩:=A;have X:=d.lt;have Q:=d.hB;have T:g<w.heap.size:=O
 obtain⟨⟨_,_,_,_,_,_,_,_,_,_⟩,_⟩:=zJ d.box;have u:=d.frs;rw[p]at u;obtain⟨a,_,_,mp,_,tm,_,rfl,f,_⟩:=u;obtain⟨⟨_,_,_,_,_⟩,_⟩:=zT f.box;have V:=zB f.box;obtain⟨b,x,J,M,k,_,i,N,y⟩:=f.var z;have L:=f.map.2.look (t:=163) underlying163 (tV w) D;rw[k]at L
 have W:(Instr.lookup 163 (.map (some mp)) (.string td) false).run Tryz.prog w.drew=.ok (.pointer (some ⟨b,0,none⟩)) w.drew:=by
  have:=(f.map.2.wd (w':=w.drew) rfl).look (t:=163) underlying163 (tV _) D;rw[k]at this;exact this
 have R:w.cell? (b,0)=some (.int .i64 x.2):=(Ds i 0).trans rfl;have S:=zB i;rw[y];have I:=U N;have H:=C0 (MW G τ w.drew m) ⟨_,_,_,_,d.drew⟩;clear d f p z J M k i y q;go_enter func94,ntmps94;go_wp2_with fail
 go_still_tail 15,(by kernel_rfl)
 repeat still_step
 change wpList _ _ _ _ _ w.drew
 go_wp2_with (first
  | (go_at_call 97;(refine(yb H.o x.2 I.o K).mono ?_);rintro e _ ⟨rfl,C,l⟩
     have F:=U C;have E:=U l
     clear C l))
 go_end0
 exact⟨rfl,F.o,Zb.drew.trans E.o⟩
theorem eS.paid{vi vv pa vo:C4}(h:eS G τ w m vi vv pa vo):(w.setCell (G.b,8) (((m.s.cost:Int)+1):Int)).heap[G.b]?=some (YY G vi vv pa vo (zl m.s)):=D0 h.box _
theorem JZ(af:MW G τ w m){td:C2}{tc:List Ex}(N:pG G.B w v (.mk 4 op n td tc))(k:m.v=q++[a])(_:q.length<=1000000000)(ah:m.s.cost+1+m.s.fuel<=1000000000):
 Cy 94 #[(G.b,0),v] w (gI G w ⟨zl m.s,q++[EC op a],m.cs⟩ (.tuple #[])):=by
 obtain⟨g,o,rfl,_,ab,K,ad,ae,_,_⟩:=N.cells;obtain⟨vi,vv,pa,vo,d⟩:=af;have aq:=d.lt;have am:=d.hB;have an:=d.hBb;have ap:g<w.heap.size:=O
 have ag:g≠G.b:=O
 have au:G.b≠g:=O
 obtain⟨⟨u,y,z,A,C,D,E,F,H,I⟩,J⟩:=zJ d.box;have R:=d.pay ah;have av:IntKind.i64.wrap ((m.s.cost:Int)+1)=(m.s.cost:Int)+1:=Ux
 have j:eF a:=d.nv a Hf;have p:=U R;have V:=U j;have Z:=U (YU op j);have aa:=U k;have P:=fun i=>(Dx w ⟨G.b,8,none⟩ (.int .i64 ((m.s.cost:Int)+1)) i)
 have l:(w.setCell (G.b,8) (((m.s.cost:Int)+1):Int)).heap.size=w.heap.size:=Uu
 have M:∀i,(w.setCell (G.b,8) (((m.s.cost:Int)+1):Int)).cell? ⟨g,i,none⟩=w.cell? ⟨g,i,none⟩:=fun i=>D4 (P g ag)
 have al:(w.setCell (G.b,8) (((m.s.cost:Int)+1):Int)).cell? (g,o+1)=some (.int .i64 op):=(M _).trans K;have r:=U d.paid;clear d N R j P M k;go_enter func94,ntmps94;go_upto_region 9 with fail;have ax:=Dt l;have aw:=Dt l.symm;generalize w.setCell (G.b,8) (((m.s.cost:Int)+1):Int)=W at *;clear l u y z A C D E F H I J ab K ad ae;have ao:g<W.heap.size:=O
 obtain⟨_,c,rfl,ai,aj,ak,_,S,T⟩:=p.o.1.wj (q:=q) (x:=a) aa.o;have t:=U (Do S T);have f:=r.o;obtain⟨⟨u,y,z,A,C,D,E,F,H,I⟩,J⟩:=zJ f;have ar:G.b<W.heap.size:=zB f;clear S T f
 go_region_law (first
  |(go_simp;go_at_call 96;(refine(yF (w:=W.drew) r.o ai aj ak O).mono ?_);rintro e _ ⟨rfl,rfl⟩)
  |(go_simp;go_at_call 113;(refine(TJ op a (zc3 V.o) _).mono ?_);rintro e _ ⟨rfl,rfl⟩)
  | (go_simp;go_at_call 97;(refine(yb (m:=⟨zl m.s,q,m.cs⟩) ⟨_,_,_,_,t.o.1.drew⟩ (EC op a) Z.o Ve).mono ?_);rintro e _ ⟨rfl,Q,L⟩
     have Y:=U Q;have X:=U L
     clear Q L))
 all_goals
  go_wp2_with fail
  go_end0
  exact⟨rfl,Y.o,(p.o.2.trans t.o.2.drew).trans X.o⟩
theorem tW(Y:MW G τ w m){td:C2}{tc:List Ex}(u:pG G.B w v (.mk 5 op n td tc)){b:Int}(f:m.v=q++[a]++[b])(X:q.length<=1000000000)(A:pQ op b=true)(aa:m.s.cost+1+m.s.fuel<=1000000000):
 Cy 94 #[(G.b,0),v] w (gI G w ⟨zl m.s,q++[pR op a b],m.cs⟩ (.tuple #[])):=by
 obtain⟨g,o,rfl,_,l,p,V,r,_,_⟩:=u.cells;obtain⟨vi,vv,pa,vo,c⟩:=Y;have aj:=c.lt;have af:=c.hB;have ag:=c.hBb;have ai:g<w.heap.size:=O
 have Z:g≠G.b:=O
 have ak:G.b≠g:=O
 obtain⟨⟨I,J,K,L,M,N,P,Q,R,S⟩,T⟩:=zJ c.box;have z:=c.pay aa;have al:IntKind.i64.wrap ((m.s.cost:Int)+1)=(m.s.cost:Int)+1:=Ux
 have k:=U z;have x:=fun i=>(Dx w ⟨G.b,8,none⟩ (.int .i64 ((m.s.cost:Int)+1)) i)
 have j:(w.setCell (G.b,8) (((m.s.cost:Int)+1):Int)).heap.size=w.heap.size:=Uu
 have d:∀i,(w.setCell (G.b,8) (((m.s.cost:Int)+1):Int)).cell? ⟨g,i,none⟩=w.cell? ⟨g,i,none⟩:=fun i=>D4 (x g Z)
 have ab:(w.setCell (G.b,8) (((m.s.cost:Int)+1):Int)).cell? (g,o)=some (.int .i64 5):=(d _).trans l;have ad:(w.setCell (G.b,8) (((m.s.cost:Int)+1):Int)).cell? (g,o+1)=some (.int .i64 op):=(d _).trans p;have ae:(w.setCell (G.b,8) (((m.s.cost:Int)+1):Int)).cell? (g,o+3)=some (.string td):=(d _).trans r;have C:=U (c.nv a Ha);have F:=U f;clear f;have H:=U A;clear A;clear c u z x d;go_enter func94,ntmps94;go_upto_region 11 with fail;have an:=Dt j;have am:=Dt j.symm;generalize w.setCell (G.b,8) (((m.s.cost:Int)+1):Int)=W at *;clear j I J K L M N P Q R S T l p V r;have ah:g<W.heap.size:=O
 go_wp2_with (first
  | (go_at_call 114;(refine(TL (m:=⟨zl m.s,m.v,m.cs⟩) ⟨_,_,_,_,k.o.1⟩ F.o X C.o op H.o).mono ?_);rintro e _ ⟨rfl,y,t⟩
     have E:=U y;have D:=U t
     clear y t))
 go_end0
 exact⟨rfl,E.o,k.o.2.trans D.o⟩
theorem x0(T:MW G τ w m){td:C2}{tc:List Ex}(t:pG G.B w v (.mk 5 op n td tc)){b:Int}(f:m.v=q++[a]++[b])(S:q.length<=1000000000)(y:pQ op b=false)(Y:m.s.cost+1+m.s.fuel<=1000000000):
 Cy 94 #[(G.b,0),v] w (yu G w none (yP (zl m.s) 2)):=by
 obtain⟨g,o,rfl,_,l,p,Q,r,_,_⟩:=t.cells;obtain⟨vi,vv,pa,vo,c⟩:=T;have ah:=c.lt;have ad:=c.hB;have ae:=c.hBb;have ag:g<w.heap.size:=O
 have X:g≠G.b:=O
 have ai:G.b≠g:=O
 obtain⟨⟨D,E,F,H,I,J,K,L,M,N⟩,P⟩:=zJ c.box;have x:=c.pay Y;have aj:IntKind.i64.wrap ((m.s.cost:Int)+1)=(m.s.cost:Int)+1:=Ux
 have k:=U x;have u:=fun i=>(Dx w ⟨G.b,8,none⟩ (.int .i64 ((m.s.cost:Int)+1)) i)
 have j:(w.setCell (G.b,8) (((m.s.cost:Int)+1):Int)).heap.size=w.heap.size:=Uu
 have d:∀i,(w.setCell (G.b,8) (((m.s.cost:Int)+1):Int)).cell? ⟨g,i,none⟩=w.cell? ⟨g,i,none⟩:=fun i=>D4 (u g X)
 have Z:(w.setCell (G.b,8) (((m.s.cost:Int)+1):Int)).cell? (g,o)=some (.int .i64 5):=(d _).trans l;have aa:(w.setCell (G.b,8) (((m.s.cost:Int)+1):Int)).cell? (g,o+1)=some (.int .i64 op):=(d _).trans p;have ab:(w.setCell (G.b,8) (((m.s.cost:Int)+1):Int)).cell? (g,o+3)=some (.string td):=(d _).trans r;have z:=U (c.nv a Ha);have A:=U f;clear f;have C:=U y;clear y;clear c t x u d;go_enter func94,ntmps94;go_upto_region 11 with fail;have al:=Dt j;have ak:=Dt j.symm;generalize w.setCell (G.b,8) (((m.s.cost:Int)+1):Int)=W at *;clear j D E F H I J K L M N P l p Q r;have af:g<W.heap.size:=O
 go_wp2_with (first
  |(go_at_call 114;(refine(Y0 (m:=⟨zl m.s,m.v,m.cs⟩) ⟨_,_,_,_,k.o.1⟩ A.o S z.o op C.o).mono ?_);rintro e _ ⟨rfl,V,R⟩;exact⟨rfl,rfl,V,k.o.2.trans R⟩))
theorem tX(au:MW G τ w m){td:C2}{tc:List Ex}(F:pG G.B w v (.mk 6 op n td tc)){i:Int}(Q:m.v=q++[i])(_:q.length<=1000000000)(J:ze G.p.wa td=some k)(L:m.s.arr[k]?=some l)(ay:td.size<=maxLen)(I:0<=i/\i<(l.length:Int))(aw:m.s.cost+1+m.s.fuel<=1000000000):
 Cy 94 #[(G.b,0),v] w (gI G w ⟨zl m.s,q++[l.getD i.toNat 0],m.cs⟩ (.tuple #[])):=by
 obtain⟨g,o,rfl,_,z,A,an,C,_,_⟩:=F.cells;obtain⟨vi,vv,pa,vo,a⟩:=au;have aJ:=a.lt;have aD:=a.hB;have aE:=a.hBb;have aI:g<w.heap.size:=O
 have av:g≠G.b:=O
 have aK:G.b≠g:=O
 obtain⟨⟨aa,ab,ad,ae,af,ag,ah,ai,aj,ak⟩,al⟩:=zJ a.box;have P:=a.pay aw;have aL:IntKind.i64.wrap ((m.s.cost:Int)+1)=(m.s.cost:Int)+1:=Ux
 have f:=U P;have K:=fun i=>(Dx w ⟨G.b,8,none⟩ (.int .i64 ((m.s.cost:Int)+1)) i)
 have r:(w.setCell (G.b,8) (((m.s.cost:Int)+1):Int)).heap.size=w.heap.size:=Uu
 have c:∀i,(w.setCell (G.b,8) (((m.s.cost:Int)+1):Int)).cell? ⟨g,i,none⟩=w.cell? ⟨g,i,none⟩:=fun i=>D4 (K g av)
 have aA:(w.setCell (G.b,8) (((m.s.cost:Int)+1):Int)).cell? (g,o)=some (.int .i64 6):=(c _).trans z;have aB:(w.setCell (G.b,8) (((m.s.cost:Int)+1):Int)).cell? (g,o+1)=some (.int .i64 op):=(c _).trans A;have aC:(w.setCell (G.b,8) (((m.s.cost:Int)+1):Int)).cell? (g,o+3)=some (.string td):=(c _).trans C;have Y:=U Q;have u:=U J;have y:=U L;have t:=U I;clear Q J L I;clear a F P K c;go_enter func94,ntmps94;go_upto_region 13 with fail;have aN:=Dt r;have aM:=Dt r.symm;generalize w.setCell (G.b,8) (((m.s.cost:Int)+1):Int)=W at *;clear r aa ab ad ae af ag ah ai aj ak al z A an C;have aG:g<W.heap.size:=O
 go_wp2_with (first
  | (go_at_call 115;(refine(AV (m:=⟨zl m.s,m.v,m.cs⟩) ⟨_,_,_,_,f.o.1⟩ Y.o O u.o y.o ay t.o).mono ?_)
     rintro e az ⟨am,τ1,_,_,_,_,_,rfl,M,aq,ax,j,D⟩;have ar:i.toNat<l.length:=by have:=t.o;omega
     obtain⟨x,d⟩:∃x,l[i.toNat]?=some x:=⟨_,Dz ar⟩
     have aF:az.cell? (am,i.toNat)=some (.int .i64 x):=(Ds j i.toNat).trans (by simp[d]);have H:l.getD i.toNat 0=x:=by rw[Yk,d];rfl
     have aH:=zB j;have Z:=C0 (eF x) (by obtain⟨_,ap⟩:=f.o.1.arr;obtain⟨_,_,_,_,_,_,ao,_⟩:=ap.at u.o y.o;exact ao x (Ye d));have V:=U M;have R:=U D;have T:=U H
     clear M aq ax j D d H)
  | (go_at_call 97;(refine(yb (m:=⟨zl m.s,q,m.cs⟩) ⟨_,_,_,_,V.o⟩ x Z.o Ve).mono ?_);rintro e _ ⟨rfl,N,E⟩
     have X:=U N;have S:=U E
     clear N E))
 go_end0
 exact⟨rfl,T.o▸X.o,(f.o.2.trans R.o).trans S.o⟩
theorem x1(Z:MW G τ w m){td:C2}{tc:List Ex}(u:pG G.B w v (.mk 6 op n td tc)){i:Int}(D:m.v=q++[i])(_:q.length<=1000000000)(y:ze G.p.wa td=some k)(A:m.s.arr[k]?=some l)(ae:td.size<=maxLen)(x:¬(0<=i/\i<(l.length:Int)))(ad:m.s.cost+1+m.s.fuel<=1000000000):
 Cy 94 #[(G.b,0),v] w (yu G w none (yP (zl m.s) 3)):=by
 obtain⟨g,o,rfl,_,j,r,X,t,_,_⟩:=u.cells;obtain⟨vi,vv,pa,vo,a⟩:=Z;have am:=a.lt;have ai:=a.hB;have aj:=a.hBb;have al:g<w.heap.size:=O
 have ab:g≠G.b:=O
 have an:G.b≠g:=O
 obtain⟨⟨J,K,L,M,N,P,Q,R,S,T⟩,V⟩:=zJ a.box;have C:=a.pay ad;have ao:IntKind.i64.wrap ((m.s.cost:Int)+1)=(m.s.cost:Int)+1:=Ux
 have f:=U C;have z:=fun i=>(Dx w ⟨G.b,8,none⟩ (.int .i64 ((m.s.cost:Int)+1)) i)
 have d:(w.setCell (G.b,8) (((m.s.cost:Int)+1):Int)).heap.size=w.heap.size:=Uu
 have c:∀i,(w.setCell (G.b,8) (((m.s.cost:Int)+1):Int)).cell? ⟨g,i,none⟩=w.cell? ⟨g,i,none⟩:=fun i=>D4 (z g ab)
 have af:(w.setCell (G.b,8) (((m.s.cost:Int)+1):Int)).cell? (g,o)=some (.int .i64 6):=(c _).trans j;have ag:(w.setCell (G.b,8) (((m.s.cost:Int)+1):Int)).cell? (g,o+1)=some (.int .i64 op):=(c _).trans r;have ah:(w.setCell (G.b,8) (((m.s.cost:Int)+1):Int)).cell? (g,o+3)=some (.string td):=(c _).trans t;have I:=U D;have F:=U y;have H:=U A;have E:=U x;clear D y A x;clear a u C z c;go_enter func94,ntmps94;go_upto_region 13 with fail;have aq:=Dt d;have ap:=Dt d.symm;generalize w.setCell (G.b,8) (((m.s.cost:Int)+1):Int)=W at *;clear d J K L M N P Q R S T V j r X t;have ak:g<W.heap.size:=O
 go_wp2_with (first
  |(go_at_call 115;(refine(F3 (m:=⟨zl m.s,m.v,m.cs⟩) ⟨_,_,_,_,f.o.1⟩ I.o O F.o H.o ae E.o).mono ?_);rintro e _ ⟨rfl,aa,Y⟩;exact⟨rfl,rfl,aa,f.o.2.trans Y⟩))
theorem GS(Z:MW G τ w m){td:C2}{tc:List Ex}(u:pG G.B w v (.mk 7 op n td tc))(D:m.v=q++l)(_:q.length<=1000000000)(x:jN G.p td=some fu)(z:l.length=fu.params.length)(ad:td.size<=maxLen)(ab:m.s.cost+1+m.s.fuel<=1000000000):
 Cy 94 #[(G.b,0),v] w (gI G w ⟨zl m.s,q,⟨eW fu,0,d7 fu l,[]⟩::m.cs⟩ (.tuple #[])):=by
 obtain⟨g,o,rfl,_,j,k,Y,r,_,_⟩:=u.cells;obtain⟨vi,vv,pa,vo,a⟩:=Z;have al:=a.lt;have ah:=a.hB;have ai:=a.hBb;have ak:g<w.heap.size:=O
 have aa:g≠G.b:=O
 have am:G.b≠g:=O
 obtain⟨⟨K,L,M,N,P,Q,R,S,T,V⟩,X⟩:=zJ a.box;have C:=a.pay ab;have an:IntKind.i64.wrap ((m.s.cost:Int)+1)=(m.s.cost:Int)+1:=Ux
 have f:=U C;have y:=fun i=>(Dx w ⟨G.b,8,none⟩ (.int .i64 ((m.s.cost:Int)+1)) i)
 have d:(w.setCell (G.b,8) (((m.s.cost:Int)+1):Int)).heap.size=w.heap.size:=Uu
 have c:∀i,(w.setCell (G.b,8) (((m.s.cost:Int)+1):Int)).cell? ⟨g,i,none⟩=w.cell? ⟨g,i,none⟩:=fun i=>D4 (y g aa)
 have ae:(w.setCell (G.b,8) (((m.s.cost:Int)+1):Int)).cell? (g,o)=some (.int .i64 7):=(c _).trans j;have af:(w.setCell (G.b,8) (((m.s.cost:Int)+1):Int)).cell? (g,o+1)=some (.int .i64 op):=(c _).trans k;have ag:(w.setCell (G.b,8) (((m.s.cost:Int)+1):Int)).cell? (g,o+3)=some (.string td):=(c _).trans r;have J:=U D;have F:=U x;have H:=U z;clear D x z;clear a u C y c;go_enter func94,ntmps94;go_upto_region 15 with fail;have ap:=Dt d;have ao:=Dt d.symm;generalize w.setCell (G.b,8) (((m.s.cost:Int)+1):Int)=W at *;clear d K L M N P Q R S T V X j k Y r;have aj:g<W.heap.size:=O
 go_wp2_with (first
  | (go_at_call 69;(refine(BB (m:=⟨zl m.s,m.v,m.cs⟩) ⟨_,_,_,_,f.o.1⟩ J.o O F.o H.o ad).mono ?_);rintro e _ ⟨rfl,A,t⟩
     have I:=U A;have E:=U t
     clear A t))
 go_end0
 exact⟨rfl,I.o,f.o.2.trans E.o⟩
theorem p8(T:MW G τ w m){td:C2}{tc:List Ex}(q:pG G.B w v (.mk 8 op n td tc)){z:List Int}(r:m.s.inp=x::z)(S:m.v.length<=2000000000)(X:m.s.cost+1+m.s.fuel<=1000000000):
 Cy 94 #[(G.b,0),v] w (gI G w ⟨{ zl m.s with inp:=z },m.v++[x],m.cs⟩ (.tuple #[])):=by
 obtain⟨g,o,rfl,_,j,k,R,l,_,_⟩:=q.cells;obtain⟨vi,vv,pa,vo,a⟩:=T;have ag:=a.lt;have ab:=a.hB;have ad:=a.hBb;have af:g<w.heap.size:=O
 have V:g≠G.b:=O
 have ah:G.b≠g:=O
 obtain⟨⟨E,F,H,I,J,K,L,M,N,P⟩,Q⟩:=zJ a.box;have y:=a.pay X;have ai:IntKind.i64.wrap ((m.s.cost:Int)+1)=(m.s.cost:Int)+1:=Ux
 have f:=U y;have t:=fun i=>(Dx w ⟨G.b,8,none⟩ (.int .i64 ((m.s.cost:Int)+1)) i)
 have d:(w.setCell (G.b,8) (((m.s.cost:Int)+1):Int)).heap.size=w.heap.size:=Uu
 have c:∀i,(w.setCell (G.b,8) (((m.s.cost:Int)+1):Int)).cell? ⟨g,i,none⟩=w.cell? ⟨g,i,none⟩:=fun i=>D4 (t g V)
 have Y:(w.setCell (G.b,8) (((m.s.cost:Int)+1):Int)).cell? (g,o)=some (.int .i64 8):=(c _).trans j;have Z:(w.setCell (G.b,8) (((m.s.cost:Int)+1):Int)).cell? (g,o+1)=some (.int .i64 op):=(c _).trans k;have aa:(w.setCell (G.b,8) (((m.s.cost:Int)+1):Int)).cell? (g,o+3)=some (.string td):=(c _).trans l;have C:=U r;clear r;clear a q y t c;go_enter func94,ntmps94;go_upto_region 17 with fail;have ak:=Dt d;have aj:=Dt d.symm;generalize w.setCell (G.b,8) (((m.s.cost:Int)+1):Int)=W at *;clear d E F H I J K L M N P Q j k R l;have ae:g<W.heap.size:=O
 go_wp2_with (first
  | (go_at_call 116;(refine(OR (m:=⟨zl m.s,m.v,m.cs⟩) ⟨_,_,_,_,f.o.1⟩ C.o S).mono ?_);rintro e _ ⟨rfl,u,p⟩
     have D:=U u;have A:=U p
     clear u p))
 go_end0
 exact⟨rfl,D.o,f.o.2.trans A.o⟩
theorem tY(M:MW G τ w m){td:C2}{tc:List Ex}(p:pG G.B w v (.mk 8 op n td tc))(q:m.s.inp=[])(Q:m.s.cost+1+m.s.fuel<=1000000000):
 Cy 94 #[(G.b,0),v] w (yu G w none (yP (zl m.s) 4)):=by
 obtain⟨g,o,rfl,_,j,k,K,l,_,_⟩:=p.cells;obtain⟨vi,vv,pa,vo,a⟩:=M;have aa:=a.lt;have V:=a.hB;have X:=a.hBb;have Z:g<w.heap.size:=O
 have P:g≠G.b:=O
 have ab:G.b≠g:=O
 obtain⟨⟨x,y,z,A,C,D,E,F,H,I⟩,J⟩:=zJ a.box;have t:=a.pay Q;have ad:IntKind.i64.wrap ((m.s.cost:Int)+1)=(m.s.cost:Int)+1:=Ux
 have f:=U t;have r:=fun i=>(Dx w ⟨G.b,8,none⟩ (.int .i64 ((m.s.cost:Int)+1)) i)
 have d:(w.setCell (G.b,8) (((m.s.cost:Int)+1):Int)).heap.size=w.heap.size:=Uu
 have c:∀i,(w.setCell (G.b,8) (((m.s.cost:Int)+1):Int)).cell? ⟨g,i,none⟩=w.cell? ⟨g,i,none⟩:=fun i=>D4 (r g P)
 have R:(w.setCell (G.b,8) (((m.s.cost:Int)+1):Int)).cell? (g,o)=some (.int .i64 8):=(c _).trans j;have S:(w.setCell (G.b,8) (((m.s.cost:Int)+1):Int)).cell? (g,o+1)=some (.int .i64 op):=(c _).trans k;have T:(w.setCell (G.b,8) (((m.s.cost:Int)+1):Int)).cell? (g,o+3)=some (.string td):=(c _).trans l;have u:=U q;clear q;clear a p t r c;go_enter func94,ntmps94;go_upto_region 17 with fail;have af:=Dt d;have ae:=Dt d.symm;generalize w.setCell (G.b,8) (((m.s.cost:Int)+1):Int)=W at *;clear d x y z A C D E F H I J j k K l;have Y:g<W.heap.size:=O
 go_wp2_with (first
  |(go_at_call 116;(refine(TM (m:=⟨zl m.s,m.v,m.cs⟩) ⟨_,_,_,_,f.o.1⟩ u.o).mono ?_);rintro e _ ⟨rfl,N,L⟩;exact⟨rfl,rfl,N,f.o.2.trans L⟩))
