import Derived.Test.YthcmenajdcbnnaaGreatDoorAtEvMath
set_option linter.unusedSimpArgs false
set_option linter.unusedVariables false
set_option maxRecDepth 100000
/- What the plain parser leaves is a rest of what it was given, and with fuel enough it looks at all: no Go, no program. -/
namespace Go.Proofs.YthcmenajdcbnnaaGreatDoor
open Lib (hid)
open Go.RowKit
theorem O5{p:Prop}(h:p:=by
 exact zc.from (zH.sign b g) ((h _ _ _ (b.sign g)).bind (n:=0) (fun e r _ c=>(zL c _).bind (n:=0) (fun _ r _ c=>zc.self c _) I7) I7) I7):p:=h
theorem O6{p:Prop}(h:p:=by
 exact zG.bind (qW (b.sign g)) (j _ _ _ (b.sign g) I7 I7 I7) fun e r _ c h=>zG.bind (zL c _) (zy _ _) fun _ r _ c h=>trivial):p:=h
theorem O7{p:Prop}(h:p:=by
 exact xU (k:=1) (l:=l) (show zH 1 l l.tail from zH.sign b c) trivial):p:=h
def zk(l:List Tok):Prop:=∃i e,l=i++[e]/\e.kind=3/\∀t∈i,t.kind≠3
theorem zk.ne{l:List Tok}(a:zk l):l≠[]:=by obtain⟨i,e,rfl,_⟩:=a;simp
theorem zk.pos{l:List Tok}(a:zk l):0<l.length:=List.length_pos_iff.2 a.ne
theorem zk.tail{l:List Tok}(c:zk l)(g:uO l≠3):zk l.tail:=by
 obtain⟨i,e,rfl,b,d⟩:=c;cases i with
 | nil=>exact absurd b g
 | cons a i=>exact⟨i,e,rfl,b,fun t h=>d t (List.mem_cons_of_mem _ h)⟩
theorem vM{s:List UInt8}{l:List Tok}(a:ze s l=true):uO l=2/\hdT l=s:=by
 cases l with
 | nil=>cases a
 | cons t r=>
   simp only[ze,Bool.and_eq_true,decide_eq_true_eq]at a;exact⟨a.1,by simpa[hdT]using a.2⟩
theorem zk.sign{l:List Tok}(a:zk l){s:List UInt8}(b:ze s l=true):zk l.tail:=a.tail (by rw[(vM b).1];decide)
theorem jN{l:List Tok}(a:zk l):l.tail.length+1=l.length:=by
 have:=a.pos;rw[List.length_tail];omega
theorem yn{lev:Int}{l:List Tok}:∀{ops:List Int},kg lev l ops≠0->∃s,ze s l=true
 | [],h=>absurd rfl h
 | op::r,h=>by
   rw[kg]at h;split at h
   .rename_i a
    exact⟨_,a.2⟩
   .exact yn h
theorem uj{l:List Tok}:∀{ops:List Int},xD l ops≠0->∃s,ze s l=true
 | [],h=>absurd rfl h
 | op::r,h=>by
   rw[xD]at h;split at h
   .rename_i a
    exact⟨_,a⟩
   .exact uj h
def zH(k:Nat)(l r:List Tok):Prop:=r <:+l/\zk r/\r.length+k<=l.length
def zc{α:Type}(k:Nat)(l:List Tok):PR α->Prop
 | .ok _ r=>zH k l r
 | .bad r=>zH 0 l r
 | .deep r=>zH 0 l r
 | .out=>True
theorem zH.self{l:List Tok}(a:zk l):zH 0 l l:=⟨List.suffix_refl _,a,Nat.le_refl _⟩
theorem zH.tail{l:List Tok}(a:zk l)(b:uO l≠3):zH 1 l l.tail:=⟨List.tail_suffix l,a.tail b,by rw[jN a];exact Nat.le_refl _⟩
theorem zH.sign{l:List Tok}(a:zk l){s:List UInt8}(b:ze s l=true):zH 1 l l.tail:=zH.tail a (by rw[(vM b).1];decide)
theorem zH.trans{k m:Nat}{a b c:List Tok}(d:zH k a b)(g:zH m b c):zH (k+m) a c:=⟨g.1.trans d.1,g.2.1,by have:=d.2.2;have:=g.2.2;omega⟩
theorem zH.mono{k m:Nat}{a b:List Tok}(c:zH k a b)(d:m<=k):zH m a b:=⟨c.1,c.2.1,by have:=c.2.2;omega⟩
theorem zc.mono{α:Type}{k m:Nat}{l:List Tok}{x:PR α}(b:zc k l x)(c:m<=k):zc m l x:=by
 cases x with
 | ok a r=>exact zH.mono (show zH k l r from b) c
 | bad r=>exact b
 | deep r=>exact b
 | out=>trivial
theorem zc.from{α:Type}{k m n:Nat}{l r:List Tok}{x:PR α}(b:zH m l r)(g:zc k r x)(c:n<=m+k):zc n l x:=by
 cases x with
 | ok a t=>exact(b.trans (show zH k r t from g)).mono c
 | bad t=>exact(b.trans (show zH 0 r t from g)).mono (Nat.zero_le _)
 | deep t=>exact(b.trans (show zH 0 r t from g)).mono (Nat.zero_le _)
 | out=>trivial
theorem zc.bind{α β:Type}{k m n:Nat}{l:List Tok}{x:PR α}{f:α->List Tok->PR β}(b:zc k l x)(g:∀a r,x=.ok a r->zk r->zc m r (f a r))(c:n<=k+m):zc n l (x.bind f):=by
 cases x with
 | ok a r=>exact zc.from (show zH k l r from b) (g a r rfl (show zH k l r from b).2.1) c
 | bad r=>exact b
 | deep r=>exact b
 | out=>trivial
theorem zc.self{α:Type}{l:List Tok}(b:zk l)(a:α):zc 0 l (.ok a l):=zH.self b
theorem zL{l:List Tok}(a:zk l)(s:List UInt8):zc 1 l (zN s l):=by
 unfold zN;split
 .rename_i b
  exact zH.sign a b
 .exact zH.self a
theorem qc{l:List Tok}(a:zk l)(k:Int)(b:k≠3):zc 1 l (want k l):=by
 unfold want;split
 .rename_i c
  exact zH.tail a (by rw[c];exact b)
 .exact zH.self a
theorem fits_expr(n:Nat):(∀lev d l,zk l->zc 1 l (pE n lev d l))/\(∀lev d a l,zk l->zc 0 l (pL n lev d a l))/\(∀d l,zk l->zc 1 l (pU n d l))/\(∀d l,zk l->zc 1 l (pP n d l))/\
 (∀d s l,zk l->zc 0 l (pN n d s l))/\(∀d l,zk l->zc 1 l (pA n d l))/\(∀d acc l,zk l->zc 1 l (pAL n d acc l)):=by
 induction n with
 | zero=>exact⟨fun _ _ _ _=>by rw[pE];trivial,fun _ _ _ _ _=>by rw[pL];trivial,fun _ _ _=>by rw[pU];trivial,fun _ _ _=>by rw[pP];trivial,fun _ _ _ _=>by rw[pN];trivial,fun _ _ _=>by rw[pA];trivial,fun _ _ _ _=>by rw[pAL];trivial⟩
 | succ n v=>
   obtain⟨h,k,o,u,t,q,j⟩:=v;refine⟨fun lev d l b=>?_,fun lev d a l b=>?_,fun d l b=>?_,fun d l b=>?_,fun d s l b=>?_,fun d l b=>?_,fun d acc l b=>?_⟩
   .rw[pE]
    split
    .exact o d l b
    .exact(h _ _ _ b).bind (fun a r _ c=>k _ _ _ _ c) I7
   .rw[pL]
    split
    .exact zc.self b _
    .rename_i i
     obtain⟨s,g⟩:=yn i;exact zc.from (zH.sign b g) ((h _ _ _ (b.sign g)).bind (n:=1) (fun a r _ c=>k _ _ _ _ c) I7) I7
   .rw[pU]
    split
    .exact zH.self b
    .split
     .exact u d l b
     .rename_i i
      obtain⟨s,g⟩:=uj i;split
      .exact zc.from (zH.sign b g) ((zL (b.sign g) _).bind (n:=0) (fun _ r _ c=>(h _ _ _ c).bind (n:=0) (fun e r _ c=>(zL c _).bind (n:=0) (fun _ r _ c=>zc.self c _) I7) I7) I7) I7
      .exact zc.from (zH.sign b g) ((o _ _ (b.sign g)).bind (n:=0) (fun _ r _ c=>zc.self c _) I7) I7
   .rw[pP]
    split
    .rename_i g
     exact O5
    .split
     .rename_i g
      exact zH.sign b g
     .split
      .rename_i g
       exact zH.sign b g
      .split
       .rename_i g
        exact zc.from (zH.sign b g) ((zL (b.sign g) _).bind (n:=0) (fun _ r _ c=>(zL c _).bind (n:=0) (fun _ r _ c=>zc.self c _) I7) I7) I7
       .split
        .rename_i p
         exact zH.tail b (by rw[p];decide)
        .exact(qc b 1 I8).bind (fun s r _ c=>t _ _ _ c) I7
   .rw[pN]
    split
    .rename_i g
     exact zc.from (zH.sign b g) ((q _ _ (b.sign g)).bind (n:=0) (fun _ r _ c=>zc.self c _) I7) I7
    .split
     .rename_i g
      exact O5
     .exact zc.self b _
   .rw[pA]
    split
    .rename_i g
     exact zH.sign b g
    .exact j _ _ _ b
   .rw[pAL]
    refine(h _ _ _ b).bind (m:=0) (fun e r _ c=>?_) I7;split
    .rename_i g
     exact zc.from (zH.sign c g) (j _ _ _ (c.sign g)) I7
    .exact(zL c _).bind (n:=0) (fun _ r _ c=>zc.self c _) I7
theorem qW{n:Nat}{lev d:Int}{l:List Tok}(a:zk l):zc 1 l (pE n lev d l):=(fits_expr n).1 lev d l a
theorem pA_fits{n:Nat}{d:Int}{l:List Tok}(a:zk l):zc 1 l (pA n d l):=(fits_expr n).2.2.2.2.2.1 d l a
theorem yG{n:Nat}{l:List Tok}(b:zk l):zc 1 l (pI n l):=by
 unfold pI;exact(zL b _).bind (m:=0) (fun _ r _ a=>(qW a).bind (n:=0) (fun e r _ a=>(zL a _).bind (n:=0) (fun _ r _ a=>zc.self a _) I7) I7) I7
theorem xE{l:List Tok}(a:zk l):zc 1 l (pTy l):=by
 unfold pTy;split
 .rename_i c
  exact zH.sign a c
 .exact(zL a _).bind (m:=0) (fun _ r _ b=>zc.self b _) I7
theorem xS{α:Type}{k:Nat}{l:List Tok}{x:PR α}(b:zc k l x):zc k l (ya x):=by
 unfold ya;exact b.bind (m:=0) (fun _ r _ a=>(zL a _).bind (n:=0) (fun _ r _ a=>zc.self a _) I7) I7
theorem pNm_fits{n:Nat}{l:List Tok}(c:zk l):zc 1 l (pNm n l):=by
 unfold pNm;refine(qc c 1 I8).bind (m:=0) (fun s r _ a=>?_) I7;split
 .rename_i b
  exact zc.from (zH.sign a b) ((pA_fits (a.sign b)).bind (n:=0) (fun _ r _ a=>zc.self a _) I7) I7
 .split
  .rename_i b
   exact zc.from (zH.sign a b) ((qW (a.sign b)).bind (n:=0) (fun e r _ a=>(zL a _).bind (n:=0) (fun _ r _ a=>(zL a _).bind (n:=0) (fun _ r _ a=>(qW a).bind (n:=0) (fun _ r _ a=>zc.self a _) I7) I7) I7) I7) I7
  .exact(zL a _).bind (n:=0) (fun _ r _ a=>(qW a).bind (n:=0) (fun _ r _ a=>zc.self a _) I7) I7
theorem fits_stmt(n:Nat):(∀d l,zk l->zc 1 l (pS n d l))/\(∀d e t l,zk l->zc 0 l (pEl n d e t l))/\(∀d l,zk l->zc 1 l (pB n d l))/\(∀d acc l,zk l->zc 1 l (pBL n d acc l)):=by
 induction n with
 | zero=>exact⟨fun _ _ _=>by rw[pS];trivial,fun _ _ _ _ _=>by rw[pEl];trivial,fun _ _ _=>by rw[pB];trivial,fun _ _ _ _=>by rw[pBL];trivial⟩
 | succ n k=>
   obtain⟨j,i,g,h⟩:=k;refine⟨fun d l b=>?_,fun d e t l b=>?_,fun d l b=>?_,fun d acc l b=>?_⟩
   .rw[pS]
    split
    .exact zH.self b
    .split
     .refine xS ((xE b).bind (m:=0) (fun t r _ a=>(qc a 1 I8).bind (n:=0) (fun s r _ a=>(zL a _).bind (n:=0) (fun _ r _ a=>(qW a).bind (n:=0) (fun _ r _ a=>zc.self a _) I7) I7) I7) I7)
     .split
      .rename_i c
       exact zc.from (zH.sign b c) ((yG (b.sign c)).bind (n:=0) (fun e r _ a=>(g _ _ a).bind (n:=0) (fun t r _ a=>i _ _ _ _ a) I7) I7) I7
      .split
       .rename_i c
        exact zc.from (zH.sign b c) ((yG (b.sign c)).bind (n:=0) (fun e r _ a=>(g _ _ a).bind (n:=0) (fun t r _ a=>zc.self a _) I7) I7) I7
       .split
        .rename_i c
         exact xS (show zH 1 l l.tail from zH.sign b c)
        .split
         .rename_i c
          exact xS (show zH 1 l l.tail from zH.sign b c)
         .split
          .rename_i c
           exact xS (zc.from (zH.sign b c) ((qW (b.sign c)).bind (n:=0) (fun _ r _ a=>zc.self a _) I7) I7)
          .split
           .rename_i c
            exact xS (zc.from (zH.sign b c) ((yG (b.sign c)).bind (n:=0) (fun _ r _ a=>zc.self a _) I7) I7)
           .exact xS (pNm_fits b)
   .rw[pEl]
    split
    .rename_i c
     exact zc.from (zH.sign b c) ((g _ _ (b.sign c)).bind (n:=0) (fun _ r _ a=>zc.self a _) I7) I7
    .exact zc.self b _
   .rw[pB]
    exact(zL b _).bind (m:=0) (fun _ r _ a=>(h _ _ _ a).mono I7) I7
   .rw[pBL]
    split
    .rename_i c
     exact zH.sign b c
    .exact(j _ _ b).bind (m:=0) (fun _ r _ a=>(h _ _ _ a).mono I7) I7
theorem pS_fits{n:Nat}{d:Int}{l:List Tok}(a:zk l):zc 1 l (pS n d l):=(fits_stmt n).1 d l a
theorem zAi{n:Nat}{d:Int}{l:List Tok}(a:zk l):zc 1 l (pB n d l):=(fits_stmt n).2.2.1 d l a
theorem pPL_fits:∀(n:Nat) (acc:List Pa) (l:List Tok),zk l->zc 1 l (pPL n acc l)
 | 0,_,_,_=>by rw[pPL];trivial
 | n+1,acc,l,h=>by
   rw[pPL];refine(xE h).bind (m:=0) (fun t r _ a=>(qc a 1 I8).bind (m:=0) (fun s r _ a=>?_) I7) I7;split
   .rename_i b
    exact zc.from (zH.sign a b) (pPL_fits n _ _ (a.sign b)) I7
   .exact(zL a _).bind (n:=0) (fun _ r _ a=>zc.self a _) I7
theorem pPs_fits{n:Nat}{l:List Tok}(b:zk l):zc 1 l (pPs n l):=by
 unfold pPs;refine(zL b _).bind (m:=0) (fun _ r _ a=>?_) I7;split
 .rename_i c
  exact(show zH 1 r r.tail from zH.sign a c).mono I7
 .exact(pPL_fits n _ _ a).mono I7
theorem uk{n:Nat}{t:Int}{s:ByteArray}{l:List Tok}(b:zk l):zc 1 l (pFn n t s l):=by
 unfold pFn;exact(pPs_fits b).bind (m:=0) (fun _ r _ a=>(zAi a).bind (n:=0) (fun _ r _ a=>zc.self a _) I7) I7
theorem pArr_fits{s:ByteArray}{l:List Tok}(b:zk l):zc 1 l (pArr s l):=by
 unfold pArr;exact(qc b 0 I8).bind (m:=0) (fun _ r _ a=>(zL a _).bind (n:=0) (fun _ r _ a=>(zL a _).bind (n:=0) (fun _ r _ a=>zc.self a _) I7) I7) I7
def zG{α:Type}(x:PR α):Prop:=match x with | .out=>False|_=>True
theorem zG.bind{α β:Type}{k:Nat}{l:List Tok}{x:PR α}{f:α->List Tok->PR β}(b:zc k l x)(c:zG x)(g:∀a r,x=.ok a r->zk r->r.length+k<=l.length->zG (f a r)):zG (x.bind f):=by
 cases x with
 | ok a r=>exact g a r rfl (show zH k l r from b).2.1 (show zH k l r from b).2.2
 | bad r=>trivial
 | deep r=>trivial
 | out=>exact c
theorem zy(s:List UInt8)(l:List Tok):zG (zN s l):=by unfold zN;split <;> trivial
theorem yN(k:Int)(l:List Tok):zG (want k l):=by unfold want;split <;> trivial
theorem ends_expr(n:Nat):(∀lev d l,zk l->1<=lev->lev<=11->20*(l.length:Int)+15-lev<=n->zG (pE n lev d l))/\(∀lev d a l,zk l->1<=lev->lev<=10->20*(l.length:Int)+15-lev<=n->zG (pL n lev d a l))/\
 (∀d l,zk l->20*l.length+3<=n->zG (pU n d l))/\(∀d l,zk l->20*l.length+2<=n->zG (pP n d l))/\
 (∀d s l,zk l->20*l.length+1<=n->zG (pN n d s l))/\(∀d l,zk l->20*l.length+16<=n->zG (pA n d l))/\(∀d acc l,zk l->20*l.length+15<=n->zG (pAL n d acc l)):=by
 induction n with
 | zero=>exact⟨fun _ _ _ _ _ _ _=>I7,fun _ _ _ _ _ _ _ _=>I7,fun _ _ _ _=>I7,fun _ _ _ _=>I7,fun _ _ _ _ _=>I7,fun _ _ _ _=>I7,fun _ _ _ _ _=>I7⟩
 | succ n y=>
   obtain⟨j,t,u,x,w,v,q⟩:=y;refine⟨fun lev d l b m p i=>?_,fun lev d a l b m p i=>?_,fun d l b i=>?_,fun d l b i=>?_,fun d s l b i=>?_,fun d l b i=>?_,fun d acc l b i=>?_⟩
   .rw[pE]
    split
    .exact u d l b I7
    .exact zG.bind (qW b) (j _ _ _ b I7 I7 I7) fun a r _ c h=>t _ _ _ _ c m I7 I7
   .rw[pL]
    split
    .trivial
    .rename_i o
     obtain⟨s,g⟩:=yn o;have k:=jN b;exact zG.bind (qW (b.sign g)) (j _ _ _ (b.sign g) I7 I7 I7) fun a r _ c h=>t _ _ _ _ c m p I7
   .rw[pU]
    split
    .trivial
    .split
     .exact x d l b I7
     .rename_i o
      obtain⟨s,g⟩:=uj o;have k:=jN b;split
      .exact zG.bind (zL (b.sign g) _) (zy _ _) fun _ r _ c h=>zG.bind (qW c) (j _ _ _ c I7 I7 I7) fun e r _ c h=>zG.bind (zL c _) (zy _ _) fun _ r _ c h=>trivial
      .exact zG.bind ((fits_expr n).2.2.1 _ _ (b.sign g)) (u _ _ (b.sign g) I7) fun _ r _ c h=>trivial
   .rw[pP]
    have k:=jN b;split
    .rename_i g
     exact O6
    .split
     .trivial
     .split
      .trivial
      .split
       .rename_i g
        exact zG.bind (zL (b.sign g) _) (zy _ _) fun _ r _ c h=>zG.bind (zL c _) (zy _ _) fun _ r _ c h=>trivial
       .split
        .trivial
        .exact zG.bind (qc b 1 I8) (yN _ _) fun s r _ c h=>w _ _ _ c I7
   .rw[pN]
    have k:=jN b;split
    .rename_i g
     exact zG.bind (pA_fits (b.sign g)) (v _ _ (b.sign g) I7) fun _ r _ c h=>trivial
    .split
     .rename_i g
      exact O6
     .trivial
   .rw[pA]
    split
    .trivial
    .exact q _ _ _ b I7
   .rw[pAL]
    refine zG.bind (qW b) (j _ _ _ b I7 I7 I7) fun e r _ c h=>?_
    split
    .rename_i g
     have k:=jN c;exact q _ _ _ (c.sign g) I7
    .exact zG.bind (zL c _) (zy _ _) fun _ r _ c h=>trivial
theorem zAj{n:Nat}{d:Int}{l:List Tok}(a:zk l)(b:20*l.length+14<=n):zG (pE n 1 d l):=(ends_expr n).1 1 d l a I7 I7 I7
theorem pA_ends{n:Nat}{d:Int}{l:List Tok}(a:zk l)(b:20*l.length+16<=n):zG (pA n d l):=(ends_expr n).2.2.2.2.2.1 d l a b
theorem pI_ends{n:Nat}{l:List Tok}(c:zk l)(d:20*l.length+14<=n):zG (pI n l):=by
 unfold pI;exact zG.bind (zL c _) (zy _ _) fun _ r _ a b=>zG.bind (qW a) (zAj a I7) fun e r _ a b=>zG.bind (zL a _) (zy _ _) fun _ r _ a b=>trivial
theorem pTy_ends{l:List Tok}(a:zk l):zG (pTy l):=by
 unfold pTy;split
 .trivial
 .exact zG.bind (zL a _) (zy _ _) fun _ r _ c b=>trivial
theorem xU{α:Type}{k:Nat}{l:List Tok}{x:PR α}(c:zc k l x)(b:zG x):zG (ya x):=by
 unfold ya;exact zG.bind c b fun _ r _ a d=>zG.bind (zL a _) (zy _ _) fun _ r _ a d=>trivial
theorem pNm_ends{n:Nat}{l:List Tok}(d:zk l)(g:20*l.length+16<=n):zG (pNm n l):=by
 unfold pNm;refine zG.bind (qc d 1 I8) (yN _ _) fun s r _ a b=>?_
 have h:=jN a;split
 .rename_i c
  exact zG.bind (pA_fits (a.sign c)) (pA_ends (a.sign c) I7) fun _ r _ a b=>trivial
 .split
  .rename_i c
   exact zG.bind (qW (a.sign c)) (zAj (a.sign c) I7) fun e r _ a b=>zG.bind (zL a _) (zy _ _) fun _ r _ a b=>zG.bind (zL a _) (zy _ _) fun _ r _ a b=>zG.bind (qW a) (zAj a I7) fun _ r _ a b=>trivial
  .exact zG.bind (zL a _) (zy _ _) fun _ r _ a b=>zG.bind (qW a) (zAj a I7) fun _ r _ a b=>trivial
theorem ends_stmt(n:Nat):(∀d l,zk l->20*l.length+30<=n->zG (pS n d l))/\(∀d e t l,zk l->20*l.length+30<=n->zG (pEl n d e t l))/\(∀d l,zk l->20*l.length+30<=n->zG (pB n d l))/\(∀d acc l,zk l->20*l.length+31<=n->zG (pBL n d acc l)):=by
 induction n with
 | zero=>exact⟨fun _ _ _ _=>I7,fun _ _ _ _ _ _=>I7,fun _ _ _ _=>I7,fun _ _ _ _ _=>I7⟩
 | succ n u=>
   obtain⟨q,p,i,j⟩:=u;refine⟨fun d l b h=>?_,fun d e t l b h=>?_,fun d l b h=>?_,fun d acc l b h=>?_⟩
   .rw[pS]
    have o:=jN b;split
    .trivial
    .split
     .exact xU ((xE b).bind (m:=0) (n:=0) (fun t r _ a=>(qc a 1 I8).bind (n:=0) (fun s r _ a=>(zL a _).bind (n:=0) (fun _ r _ a=>(qW a).bind (n:=0) (fun _ r _ a=>zc.self a _) I7) I7) I7) I7)
       (zG.bind (xE b) (pTy_ends b) fun t r _ a g=>zG.bind (qc a 1 I8) (yN _ _) fun s r _ a g=>zG.bind (zL a _) (zy _ _) fun _ r _ a g=>zG.bind (qW a) (zAj a I7) fun _ r _ a g=>trivial)
     .split
      .rename_i c
       exact zG.bind (yG (b.sign c)) (pI_ends (b.sign c) I7) fun e r _ a g=>zG.bind (zAi a) (i _ _ a I7) fun t r _ a g=>p _ _ _ _ a I7
      .split
       .rename_i c
        exact zG.bind (yG (b.sign c)) (pI_ends (b.sign c) I7) fun e r _ a g=>zG.bind (zAi a) (i _ _ a I7) fun t r _ a g=>trivial
       .split
        .rename_i c
         exact O7
        .split
         .rename_i c
          exact O7
         .split
          .rename_i c
           exact xU ((qW (b.sign c)).bind (n:=0) (m:=0) (fun _ r _ a=>zc.self a _) I7) (zG.bind (qW (b.sign c)) (zAj (b.sign c) I7) fun _ r _ a g=>trivial)
          .split
           .rename_i c
            exact xU ((yG (b.sign c)).bind (n:=0) (m:=0) (fun _ r _ a=>zc.self a _) I7) (zG.bind (yG (b.sign c)) (pI_ends (b.sign c) I7) fun _ r _ a g=>trivial)
           .exact xU (pNm_fits b) (pNm_ends b I7)
   .rw[pEl]
    have o:=jN b;split
    .rename_i c
     exact zG.bind (zAi (b.sign c)) (i _ _ (b.sign c) I7) fun _ r _ a g=>trivial
    .trivial
   .rw[pB]
    exact zG.bind (zL b _) (zy _ _) fun _ r _ a g=>j _ _ _ a I7
   .rw[pBL]
    split
    .trivial
    .exact zG.bind (pS_fits b) (q _ _ b I7) fun _ r _ a g=>j _ _ _ a I7
theorem pB_ends{n:Nat}{d:Int}{l:List Tok}(a:zk l)(b:20*l.length+30<=n):zG (pB n d l):=(ends_stmt n).2.2.1 d l a b
theorem pPL_ends:∀(n:Nat) (acc:List Pa) (l:List Tok),zk l->20*l.length+1<=n->zG (pPL n acc l)
 | 0,_,_,_,_=>I7
 | n+1,acc,l,h,hn=>by
   rw[pPL];refine zG.bind (xE h) (pTy_ends h) fun t r _ a b=>zG.bind (qc a 1 I8) (yN _ _) fun s r _ a b=>?_
   have d:=jN a;split
   .rename_i c
    exact pPL_ends n _ _ (a.sign c) I7
   .exact zG.bind (zL a _) (zy _ _) fun _ r _ a b=>trivial
theorem pPs_ends{n:Nat}{l:List Tok}(a:zk l)(d:20*l.length+1<=n):zG (pPs n l):=by
 unfold pPs;refine zG.bind (zL a _) (zy _ _) fun _ r _ b c=>?_
 split
 .trivial
 .exact pPL_ends n _ _ b I7
theorem pFn_ends{n:Nat}{t:Int}{s:ByteArray}{l:List Tok}(b:zk l)(d:20*l.length+30<=n):zG (pFn n t s l):=by
 unfold pFn;exact zG.bind (pPs_fits b) (pPs_ends b I7) fun _ r _ a c=>zG.bind (zAi a) (pB_ends a I7) fun _ r _ a c=>trivial
theorem pArr_ends{s:ByteArray}{l:List Tok}(c:zk l):zG (pArr s l):=by
 unfold pArr;exact zG.bind (qc c 0 I8) (yN _ _) fun _ r _ a b=>zG.bind (zL a _) (zy _ _) fun _ r _ a b=>zG.bind (zL a _) (zy _ _) fun _ r _ a b=>trivial
theorem pPr_ends:∀(n:Nat) (p:Pr) (l:List Tok),zk l->20*l.length+40<=n->zG (pPr n p l)
 | 0,_,_,_,_=>I7
 | n+1,p,l,h,hn=>by
   rw[pPr];split
   .trivial
   .refine zG.bind (xE h) (pTy_ends h) fun t r _ a b=>zG.bind (qc a 1 I8) (yN _ _) fun s r _ a b=>?_
    split
    .rename_i c
     have d:=jN a;exact zG.bind (pArr_fits (a.sign c.2.2)) (pArr_ends (a.sign c.2.2)) fun _ r _ a b=>pPr_ends n _ _ a I7
    .exact zG.bind (uk a) (pFn_ends a I7) fun _ r _ a b=>pPr_ends n _ _ a I7
def jl(l:List Tok):PR Pr:=pPr (20*l.length+40) ⟨[],[]⟩ l
theorem xi{l:List Tok}(a:zk l):zG (jl l):=pPr_ends _ _ _ a Zr
theorem typEs_inl{p:Pr}{vars:List Pa}:∀{l:List Ex} {x:Int},qU p vars l=.inl x->x≠0
 | [],x,a=>by rw[qU]at a;cases a
 | e::r,x,a=>by
   rw[qU]at a;by_cases b:(qx p vars e).2=0
   .rw[if_neg Ih]at a
    cases hr:qU p vars r with
    | inl c=>rw[hr]at a;injection a with a;subst a;exact typEs_inl hr
    | inr l=>rw[hr]at a;cases a
   .rw[if_pos b]at a
    injection a with a;rw[<-a];exact b
end Go.Proofs.YthcmenajdcbnnaaGreatDoor
