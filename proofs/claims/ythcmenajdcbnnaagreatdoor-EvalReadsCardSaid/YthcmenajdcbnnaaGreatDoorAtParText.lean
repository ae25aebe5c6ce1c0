import Derived.Test.YthcmenajdcbnnaaGreatDoorAtEvRow
set_option linter.unusedSimpArgs false
set_option linter.unusedVariables false
set_option maxRecDepth 100000
/- The text of a valid program is parsed to it, by the plain parser: no Go, no program. -/
namespace Go.Proofs.YthcmenajdcbnnaaGreatDoor
open Lib (hid)
open Go.RowKit
theorem Ok{p:Prop}(h:p:=by
 unfold prT;simp only[List.map_append,List.flatten_append,List.length_append,List.map_cons,List.map_nil,List.flatten_cons,List.flatten_nil,List.append_nil];omega):p:=h
theorem Ol{p:Prop}(h:p:=by
 unfold EX at *;rw[ut I8 I8,m];simp only[List.length_append,List.length_cons,List.length_nil,bsz];omega):p:=h
theorem kindT_no3{t:List UInt8}{k:Int}(a:xg t=some k):k≠3:=by
 unfold xg at a;split at a
 .injection a with a
  omega
 .split at a
  .injection a with a
   omega
  .split at a
   .injection a with a
    omega
   .cases a
theorem one_no3{l t:List UInt8}{k:Int}(a:one l=some (k,t)):k≠3:=by
 unfold one at a;split at a
 .cases hk:xg (l.takeWhile qO)with
  | none=>rw[hk]at a;cases a
  | some j=>
    rw[hk]at a;injection a with a;injection a with a _;exact a ▸ kindT_no3 hk
 .split at a
  .injection a with a
   injection a with a _;omega
  .cases a
theorem jb:∀(n:Nat) (l:List UInt8) (b:Nat) (g:List Tok),l.length<=n->zn l b=(g,none)->zk g
 | _,[],b,g,_,a=>by
   rw[zn]at a;injection a with a _;exact⟨[],⟨3,[],b⟩,a.symm,rfl,fun t x=>by cases x⟩
 | 0,c::r,b,g,a,_=>by simp at a
 | n+1,c::r,b,g,hl,a=>by
   simp only[List.length_cons]at hl;rw[zn]at a;split at a
   .exact jb n r _ g I7 a
   .split at a
    .exact jb n r _ g I7 a
    .split at a
     .have o:=List.IsSuffix.length_le (List.dropWhile_suffix (l:=r) (fun d:UInt8=>d.toNat != 10))
      exact jb n _ _ g I7 a
     .split at a
      .cases a
      .rename_i k t w
       have o:(r.drop (t.length-1)).length<=r.length:=by rw[List.length_drop];omega
       injection a with j m;obtain⟨i,e,p,v,q⟩:=jb n (r.drop (t.length-1)) b (zn (r.drop (t.length-1)) b).1 I7 (by rw[<-m]);refine⟨⟨k,t,b⟩::i,e,by rw[<-j,p];rfl,v,fun u h=>?_⟩;rcases List.mem_cons.1 h with rfl|h
       .exact one_no3 w
       .exact q u h
def xB:List Tok->Nat
 | []=>0
 | t::r=>t.text.length+xB r
def Tk(l:List Tok):Prop:=∀t∈l,(t.kind=1->1<=t.text.length)/\(t.kind=0->(t.text.all jv=true/\1<=t.text.length))
theorem Tk.tail{l:List Tok}(a:Tk l):Tk l.tail:=fun t b=>a t (List.mem_of_mem_tail b)
theorem byt_tail(l:List Tok):xB l=(hdT l).length+xB l.tail:=by
 cases l <;> rfl
theorem qN{s:List UInt8}{l:List Tok}(a:ze s l=true):xB l=s.length+xB l.tail:=by
 rw[byt_tail,(vM a).2]
theorem zJ{α β:Type}{x:PR α}{f:α->List Tok->PR β}{b:β}{t:List Tok}(c:x.bind f=.ok b t):∃a r,x=.ok a r/\f a r=.ok b t:=by
 cases x with
 | ok a r=>exact⟨a,r,rfl,c⟩
 | bad r=>cases c
 | deep r=>cases c
 | out=>cases c
theorem qS{s:List UInt8}{l r:List Tok}{u:Unit}(a:zN s l=.ok u r):xB l=s.length+xB r/\(Tk l->Tk r):=by
 unfold zN at a;split at a
 .rename_i b
  injection a with _ a;exact⟨a ▸ qN b,fun k=>a ▸ k.tail⟩
 .cases a
theorem us{l r:List Tok}{s:ByteArray}(a:want 1 l=.ok s r):xB l=s.size+xB r/\(Tk l->Tk r)/\(Tk l->1<=s.size):=by
 unfold want at a;split at a
 .rename_i b
  injection a with d a;have c:s.size=(hdT l).length:=by rw[<-d];simp[ByteArray.size]
  refine⟨by rw[c,<-a];exact byt_tail l,fun k=>a ▸ k.tail,fun k=>?_⟩;rw[c];cases l with
  | nil=>cases b
  | cons t q=>exact(k t Ia).1 b
 .cases a
theorem opFrom_mem{lev:Int}{l:List Tok}:∀{ops:List Int},kg lev l ops≠0->kg lev l ops∈ops/\ze (sgT (kg lev l ops)) l=true
 | [],h=>absurd rfl h
 | op::r,h=>by
   rw[kg]at h ⊢;split at h
   .rename_i a
    rw[if_pos a];exact⟨Ia,a.2⟩
   .rename_i a
    rw[if_neg a];exact⟨List.mem_cons_of_mem _ (opFrom_mem h).1,(opFrom_mem h).2⟩
theorem unFrom_mem{l:List Tok}:∀{ops:List Int},xD l ops≠0->xD l ops∈ops/\ze (sgT (xD l ops)) l=true
 | [],h=>absurd rfl h
 | op::r,h=>by
   rw[xD]at h ⊢;split at h
   .rename_i a
    rw[if_pos a];exact⟨Ia,a⟩
   .rename_i a
    rw[if_neg a];exact⟨List.mem_cons_of_mem _ (unFrom_mem h).1,(unFrom_mem h).2⟩
theorem two_len:∀op∈twos,1<=(sgT op).length/\(sgT op).length<=3:=In
theorem un_len:∀op∈ones,1<=(sgT op).length/\(sgT op).length<=3:=In
theorem digits_len:∀(n u:Nat),u<10 ^ (n+1)->(Lib.decDigits u).length<=n+1
 | n,u,h=>by
   rw[Lib.decDigits];split
   .simp
   .rename_i a
    cases n with
    | zero=>exact absurd IM a
    | succ n=>
      have:=digits_len n (u / 10) (by rw[Nat.pow_succ]at h;omega);rw[List.length_append];simp;omega
theorem decV_lt:∀(l:List UInt8) (acc:Nat),l.all jv=true->jj acc l<(acc+1)*10 ^ l.length
 | [],acc,_=>by rw[uY];simp
 | c::r,acc,h=>by
   rw[List.all_cons,Bool.and_eq_true]at h
   have b:c.toNat-48<10:=by
    have:=h.1;simp[jv]at this;omega
   rw[decV_cons];have a:=decV_lt r (acc*10+(c.toNat-48)) h.2;refine Nat.lt_of_lt_of_le a ?_;rw[List.length_cons,Nat.pow_succ,Nat.mul_comm (10 ^ r.length) 10,<-Nat.mul_assoc];exact Nat.mul_le_mul_right _ I7
theorem num_len{l:List UInt8}(a:l.all jv=true)(c:1<=l.length):(Lib.itoa ((jj 0 l:Nat):Int)).length<=l.length:=by
 rw[Lib.itoa_nonneg];have:=decV_lt l 0 a;obtain⟨n,b⟩:∃n,l.length=n+1:=⟨l.length-1,I7⟩
 rw[b]at this ⊢;exact digits_len n _ I7
theorem bsz(s:ByteArray):s.data.toList.length=s.size:=Array.length_toList
def EX(e:Ex):Nat:=(xv e).length+2
def AX(l:List Ex):Nat:=(xN (l.map xv)).length
theorem AX_snoc(l:List Ex)(e:Ex):AX (l++[e])<=AX l+EX e:=by
 unfold AX EX;rw[List.map_append,List.map_cons,List.map_nil,joinC_snoc,List.length_append,List.length_append];split <;> simp <;> omega
theorem par_len(lev:Int)(e:Ex):(opT lev e).length<=EX e:=by
 unfold opT parT EX;split <;> simp
theorem EX_two(op:Int)(a b:Ex)(c:op∈twos):EX (.mk 5 op 0 bE [a,b])<=EX a+EX b+7:=by
 have d:xv (.mk 5 op 0 bE [a,b])=opT (jZ op) a++32::(sgT op++32::opT (jZ op+1) b):=QU
 have e:=par_len (jZ op) a;have g:=par_len (jZ op+1) b;have h:=two_len op c;unfold EX at *;rw[d];simp only[List.length_append,List.length_cons];omega
theorem EX_one(op:Int)(a:Ex)(b:op∈ones):EX (.mk 4 op 0 bE [a])<=EX a+5:=by
 have c:xv (.mk 4 op 0 bE [a])=if 23<=op then sgT op++40::(xv a++[41])else sgT op++opT 11 a:=QU
 have d:=par_len 11 a;have e:=un_len op b;unfold EX at *;rw[c];split <;> simp only[List.length_append,List.length_cons,List.length_nil] <;> omega
theorem EX_var(s:ByteArray):EX (.mk 3 0 0 s [])=s.size+2:=by
 unfold EX;rw[exT_mk];exact congrArg (·+2) (bsz s)
theorem EX_index(s:ByteArray)(e:Ex):EX (.mk 6 0 0 s [e])=s.size+EX e+2:=by
 have a:xv (.mk 6 0 0 s [e])=s.data.toList++91::(xv e++[93]):=QU
 unfold EX;rw[a];simp only[List.length_append,List.length_cons,List.length_nil,bsz]
theorem EX_call(s:ByteArray)(l:List Ex):EX (.mk 7 0 0 s l)=s.size+AX l+4:=by
 have a:xv (.mk 7 0 0 s l)=s.data.toList++40::(xN (l.map xv)++[41]):=by
  rw[exT_mk,uf];show s.data.toList++40::(xN ((l.map fun e=>(e.kind,e.op,xv e)).map (·.2.2))++[41])=_;rw[List.map_map];rfl
 unfold EX AX;rw[a];simp only[List.length_append,List.length_cons,List.length_nil,bsz];omega
theorem size_expr(n:Nat):(∀lev d l e r,Tk l->pE n lev d l=.ok e r->EX e+50*xB r<=50*xB l/\Tk r)/\(∀lev d a l e r,Tk l->pL n lev d a l=.ok e r->EX e+50*xB r<=EX a+50*xB l/\Tk r)/\
 (∀d l e r,Tk l->pU n d l=.ok e r->EX e+50*xB r<=50*xB l/\Tk r)/\(∀d l e r,Tk l->pP n d l=.ok e r->EX e+50*xB r<=50*xB l/\Tk r)/\
 (∀d s l e r,Tk l->pN n d s l=.ok e r->EX e+50*xB r<=s.size+2+50*xB l/\Tk r)/\(∀d l A r,Tk l->pA n d l=.ok A r->AX A+50*xB r+50<=50*xB l/\Tk r)/\(∀d acc l A r,Tk l->pAL n d acc l=.ok A r->AX A+50*xB r+50<=AX acc+50*xB l/\Tk r):=by
 induction n with
 | zero=>exact⟨fun _ _ _ _ _ _ c=>(by rw[pE]at c;cases c),fun _ _ _ _ _ _ _ c=>(by rw[pL]at c;cases c),fun _ _ _ _ _ c=>(by rw[pU]at c;cases c),fun _ _ _ _ _ c=>(by rw[pP]at c;cases c),fun _ _ _ _ _ _ c=>(by rw[pN]at c;cases c),fun _ _ _ _ _ c=>(by rw[pA]at c;cases c),fun _ _ _ _ _ _ c=>(by rw[pAL]at c;cases c)⟩
 | succ n V=>
   obtain⟨D,P,Q,U,T,S,O⟩:=V;refine⟨fun lev d l e r k c=>?_,fun lev d a l e r k c=>?_,fun d l e r k c=>?_,fun d l e r k c=>?_,fun d s l e r k c=>?_,fun d l A r k c=>?_,fun d acc l A r k c=>?_⟩
   .rw[pE]at c
    split at c
    .exact Q _ _ _ _ k c
    .obtain⟨a,G,w,m⟩:=zJ c
     have i:=D _ _ _ _ _ k w;have E:=P _ _ _ _ _ _ i.2 m;exact⟨I7,E.2⟩
   .rw[pL]at c
    split at c
    .injection c with w m
     subst w m;exact⟨Nat.le_refl _,k⟩
    .rename_i J
     obtain⟨C,j⟩:=opFrom_mem J;obtain⟨b,G,w,m⟩:=zJ c;have i:=D _ _ _ _ _ k.tail w;have E:=P _ _ _ _ _ _ i.2 m;have o:=qN j;have R:=two_len _ C;have M:=EX_two (opAt lev l) a b C;unfold opAt at *;exact⟨I7,E.2⟩
   .rw[pU]at c
    split at c
    .cases c
    .split at c
     .exact U _ _ _ _ k c
     .rename_i J
      obtain⟨C,j⟩:=unFrom_mem J;have o:=qN j;have R:=un_len _ C;split at c
      .obtain⟨u,G,w,m⟩:=zJ c
       obtain⟨a,H,y,x⟩:=zJ m;obtain⟨v,I,z,g⟩:=zJ x;injection g with g h;subst g h;have F:=qS w;have i:=D _ _ _ _ _ (F.2 k.tail) y;have p:=qS z;have M:=EX_one (unAt l) a C;have L:=F.1;have B:=p.1;simp only[List.length_cons,List.length_nil]at L B;unfold unAt at *;exact⟨I7,p.2 i.2⟩
      .obtain⟨a,H,y,x⟩:=zJ c
       injection x with g h;subst g h;have i:=Q _ _ _ _ k.tail y;have M:=EX_one (unAt l) a C;unfold unAt at *;exact⟨I7,i.2⟩
   .rw[pP]at c
    split at c
    .rename_i j
     obtain⟨a,H,y,x⟩:=zJ c;obtain⟨v,I,z,g⟩:=zJ x;injection g with g h;subst g h;have o:=qN j;have i:=D _ _ _ _ _ k.tail y;have p:=qS z;have B:=p.1;exact⟨I7,p.2 i.2⟩
    .split at c
     .rename_i j
      injection c with g h;subst g h;have o:=qN j;have:EX (.mk 2 0 1 bE [])=6:=In
      rw[this];simp only[uh,List.length_cons,List.length_nil]at o;exact⟨I7,k.tail⟩
     .split at c
      .rename_i j
       injection c with g h;subst g h;have o:=qN j;have:EX (.mk 2 0 0 bE [])=7:=In
       rw[this];simp only[vE,List.length_cons,List.length_nil]at o;exact⟨I7,k.tail⟩
      .split at c
       .rename_i j
        obtain⟨u,G,w,m⟩:=zJ c;obtain⟨v,I,z,g⟩:=zJ m;injection g with g h;subst g h;have o:=qN j;have F:=qS w;have p:=qS z;have L:=F.1;have B:=p.1;have:EX (.mk 8 0 0 bE [])=8:=In
        rw[this];simp only[sRead,List.length_cons,List.length_nil]at o;exact⟨I7,p.2 (F.2 k.tail)⟩
       .split at c
        .rename_i N
         injection c with g h;subst g h;have o:=byt_tail l
         have X:EX (.mk 1 0 (jj 0 (hdT l)) bE [])<=(hdT l).length+2/\1<=(hdT l).length:=by
          cases l with
          | nil=>cases N
          | cons t q=>
            have m:=(k t Ia).2 N;refine⟨?_,m.2⟩;unfold EX;rw[exT_mk];exact Nat.add_le_add_right (num_len m.1 m.2) 2
         exact⟨I7,k.tail⟩
        .obtain⟨s,G,w,m⟩:=zJ c
         have K:=us w;have i:=T _ _ _ _ _ (K.2.1 k) m;have:=K.2.2 k;have:=K.1;exact⟨I7,i.2⟩
   .rw[pN]at c
    split at c
    .rename_i j
     obtain⟨A,G,w,m⟩:=zJ c;injection m with g h;subst g h;have o:=qN j;have i:=S _ _ _ _ k.tail w;rw[EX_call];simp only[List.length_cons,List.length_nil]at o;exact⟨I7,i.2⟩
    .split at c
     .rename_i j
      obtain⟨a,H,y,x⟩:=zJ c;obtain⟨v,I,z,g⟩:=zJ x;injection g with g h;subst g h;have o:=qN j;have i:=D _ _ _ _ _ k.tail y;have p:=qS z;have B:=p.1;rw[EX_index];exact⟨I7,p.2 i.2⟩
     .injection c with g h
      subst g h;rw[EX_var];exact⟨I7,k⟩
   .rw[pA]at c
    split at c
    .rename_i j
     injection c with g h;subst g h;have o:=qN j;simp only[List.length_cons,List.length_nil]at o;have:AX []=0:=rfl;exact⟨I7,k.tail⟩
    .have i:=O _ _ _ _ _ k c
     have:AX []=0:=rfl;exact⟨I7,i.2⟩
   .rw[pAL]at c
    obtain⟨a,H,y,x⟩:=zJ c;have i:=D _ _ _ _ _ k y;have W:=AX_snoc acc a;split at x
    .rename_i j
     have o:=qN j;have E:=O _ _ _ _ _ i.2.tail x;exact⟨I7,E.2⟩
    .obtain⟨v,I,z,g⟩:=zJ x
     injection g with g h;subst g h;have p:=qS z;have B:=p.1;simp only[List.length_cons,List.length_nil]at B;exact⟨I7,p.2 i.2⟩
theorem pE_size{n:Nat}{lev d:Int}{l r:List Tok}{e:Ex}(k:Tk l)(a:pE n lev d l=.ok e r):EX e+50*xB r<=50*xB l/\Tk r:=(size_expr n).1 _ _ _ _ _ k a
theorem pA_size{n:Nat}{d:Int}{l r:List Tok}{a:List Ex}(k:Tk l)(b:pA n d l=.ok a r):AX a+50*xB r+50<=50*xB l/\Tk r:=(size_expr n).2.2.2.2.2.1 _ _ _ _ k b
theorem vQ{α:Type}{x:PR α}{a:α}{r:List Tok}(d:ya x=.ok a r):∃c,x=.ok a c/\xB c=1+xB r/\(Tk c->Tk r):=by
 unfold ya at d;obtain⟨b,c,e,g⟩:=zJ d;obtain⟨u,l,h,i⟩:=zJ g;injection i with j k;subst j k;have m:=qS h;exact⟨c,e,m.1,m.2⟩
theorem pTy_size{l r:List Tok}{t:Int}(k:Tk l)(a:pTy l=.ok t r):3+xB r<=xB l/\Tk r/\(tyT t).length<=4:=by
 unfold pTy at a;split at a
 .rename_i i
  injection a with b c;subst b c;have h:=qN i;simp only[sInt,List.length_cons,List.length_nil]at h;exact⟨I7,k.tail,I8⟩
 .obtain⟨u,j,e,g⟩:=zJ a
  injection g with b c;subst b c;have m:=qS e;have d:=m.1;simp only[kZ,List.length_cons,List.length_nil]at d;exact⟨I7,m.2 k,I8⟩
theorem pI_size{n:Nat}{l r:List Tok}{e:Ex}(k:Tk l)(c:pI n l=.ok e r):EX e+50*xB r+100<=50*xB l/\Tk r:=by
 unfold pI at c;obtain⟨u,x,m,o⟩:=zJ c;obtain⟨a,y,p,q⟩:=zJ o;obtain⟨v,z,t,b⟩:=zJ q;injection b with b w;subst b w;have d:=qS m;have h:=pE_size (d.2 k) p;have g:=qS t;have i:=d.1;have j:=g.1;simp only[List.length_cons,List.length_nil]at i j;exact⟨I7,g.2 h.2⟩
theorem tab_len(t:Nat):(tabT t).length=t:=List.length_replicate
theorem ut{k a:Int}{name:ByteArray}{args:List Ex}{thn els:List St}(b:k≠4)(c:k≠5)(t:Nat):(stT (.mk k a name args thn els) t).length=t+(xO k a name args).length+1:=by
 rw[stT_mk,if_neg b,if_neg c,List.length_append,List.length_append,tab_len];simp;omega
theorem st_len4(e:Ex)(thn els:List St)(t:Nat):(stT (.mk 4 0 bE [e] thn els) t).length<=2*t+8+EX e+(kW thn (t+1)).length+(if els.length=0 then 0 else t+9+(kW els (t+1)).length):=by
 have a:xO 4 0 bE [e]=sIf++32::(40::(xv e++[41,32,123])):=Q3
 rw[stT_mk,a,if_pos ID];unfold EX;split <;> simp only[List.length_append,List.length_cons,List.length_nil,tab_len,sIf] <;> omega
theorem st_len5(e:Ex)(thn:List St)(t:Nat):(stT (.mk 5 0 bE [e] thn []) t).length=2*t+11+EX e+(kW thn (t+1)).length:=by
 have a:xO 5 0 bE [e]=y9++32::(40::(xv e++[41,32,123])):=Q3
 rw[stT_mk,a,if_neg I8,if_pos ID];unfold EX;simp only[List.length_append,List.length_cons,List.length_nil,tab_len,y9];omega
theorem pNm_size{n:Nat}{l r:List Tok}{s:St}(k:Tk l)(C:pNm n l=.ok s r):(∀t,(stT s t).length+50*xB r+90<=t+50*xB l)/\Tk r:=by
 unfold pNm at C;obtain⟨c,O,H,e⟩:=zJ C;have w:=us H;have R:=w.1;have B:=w.2.1 k;have S:=w.2.2 k;split at e
 .rename_i A
  obtain⟨p,E,g,h⟩:=zJ e;injection h with i j;subst i j;have z:=qN A;have d:=pA_size B.tail g;simp only[List.length_cons,List.length_nil]at z;refine⟨fun t=>?_,d.2⟩;have m:xO 10 0 bE [.mk 7 0 0 c p]=xv (.mk 7 0 0 c p)++[59]:=by rw[<-xn (.mk 7 0 0 c p) []];rfl
  have M:=EX_call c p;unfold EX at M;rw[ut I8 I8,m];simp only[List.length_append,List.length_cons,List.length_nil];omega
 .split at e
  .rename_i A
   obtain⟨a,E,g,h⟩:=zJ e;obtain⟨u,N,x,i⟩:=zJ h;obtain⟨v,P,j,y⟩:=zJ i;obtain⟨b,Q,L,I⟩:=zJ y;injection I with J K;subst J K;have z:=qN A;have d:=pE_size B.tail g;have o:=qS x;have D:=qS j;have F:=pE_size (D.2 (o.2 d.2)) L;have q:=o.1;have G:=D.1;simp only[List.length_cons,List.length_nil]at z q G;refine⟨fun t=>?_,F.2⟩;have m:xO 3 0 c [a,b]=c.data.toList++91::(xv a++93::32::61::32::(xv b++[59])):=by rw[<-xn a [b],<-argT_two a b []];rfl
   exact Ol
  .obtain⟨u,E,g,h⟩:=zJ e
   obtain⟨a,N,x,i⟩:=zJ h;injection i with j y;subst j y;have o:=qS g;have d:=pE_size (o.2 B) x;have q:=o.1;simp only[List.length_cons,List.length_nil]at q;refine⟨fun t=>?_,d.2⟩;have m:xO 2 0 c [a]=c.data.toList++32::61::32::(xv a++[59]):=by rw[<-xn a []];rfl
   exact Ol
theorem size_stmt(n:Nat):(∀d l s r,Tk l->pS n d l=.ok s r->(∀t:Nat,(t:Int)<=d->(stT s t).length+50*xB r<=50*xB l)/\Tk r)/\
 (∀d e thn l s r,d<=100->Tk l->pEl n d e thn l=.ok s r->(∀t:Nat,(t:Int)<=d->(stT s t).length+50*xB r<=2*t+8+EX e+(kW thn (t+1)).length+50*xB l)/\Tk r)/\
 (∀d l b r,Tk l->pB n d l=.ok b r->(∀t:Nat,(t:Int)<=d->(kW b t).length+50*xB r+100<=50*xB l)/\Tk r)/\
 (∀d acc l b r,Tk l->pBL n d acc l=.ok b r->(∀t:Nat,(t:Int)<=d->(kW b t).length+50*xB r+50<=(kW acc t).length+50*xB l)/\Tk r):=by
 induction n with
 | zero=>exact⟨fun _ _ _ _ _ a=>(by rw[pS]at a;cases a),fun _ _ _ _ _ _ _ _ a=>(by rw[pEl]at a;cases a),fun _ _ _ _ _ a=>(by rw[pB]at a;cases a),fun _ _ _ _ _ _ a=>(by rw[pBL]at a;cases a)⟩
 | succ n W=>
   obtain⟨V,U,I,K⟩:=W;refine⟨fun d l s r k a=>?_,fun d e thn l s r T k a=>?_,fun d l b r k a=>?_,fun d acc l b r k a=>?_⟩
   .rw[pS]at a
    split at a
    .cases a
    .rename_i T
     split at a
     .obtain⟨q,v,F,y⟩:=vQ a
      obtain⟨O,B,i,j⟩:=zJ v;obtain⟨L,N,C,D⟩:=zJ j;obtain⟨u,X,c,g⟩:=zJ D;obtain⟨e,Y,Q,R⟩:=zJ g;injection R with S P;subst S P;have p:=pTy_size k i;have w:=us C;have Z:=w.1;have aa:=w.2.2 p.2.1;have E:=qS c;have H:=E.1;simp only[List.length_cons,List.length_nil]at H;have A:=pE_size (E.2 (w.2.1 p.2.1)) Q;refine⟨fun t h=>?_,y A.2⟩;have z:xO 1 O L [e]=tyT O++32::(L.data.toList++32::61::32::(xv e++[59])):=Q3
      unfold EX at *;rw[ut I8 I8,z];simp only[List.length_append,List.length_cons,List.length_nil,bsz];omega
     .split at a
      .rename_i o
       have m:=qN o;simp only[sIf,List.length_cons,List.length_nil]at m;obtain⟨e,B,i,j⟩:=zJ a;obtain⟨b,N,C,D⟩:=zJ j;have p:=pI_size k.tail i;have x:=I _ _ _ _ p.2 C;have M:=U _ _ _ _ _ _ I7 x.2 D;refine⟨fun t h=>?_,M.2⟩;have G:=x.1 (t+1) I7;have J:=M.1 t h;omega
      .split at a
       .rename_i o
        have m:=qN o;simp only[y9,List.length_cons,List.length_nil]at m;obtain⟨e,B,i,j⟩:=zJ a;obtain⟨b,N,C,D⟩:=zJ j;injection D with c g;subst c g;have p:=pI_size k.tail i;have x:=I _ _ _ _ p.2 C;refine⟨fun t h=>?_,x.2⟩;have G:=x.1 (t+1) I7;rw[st_len5];omega
       .split at a
        .rename_i o
         have m:=qN o;simp only[ui,List.length_cons,List.length_nil]at m;obtain⟨q,v,F,y⟩:=vQ a;injection v with c g;subst c g;refine⟨fun t h=>?_,y k.tail⟩;have z:(xO 6 0 bE []).length=6:=ID
         rw[ut I8 I8,z];omega
        .split at a
         .rename_i o
          have m:=qN o;simp only[sCont,List.length_cons,List.length_nil]at m;obtain⟨q,v,F,y⟩:=vQ a;injection v with c g;subst c g;refine⟨fun t h=>?_,y k.tail⟩;have z:(xO 7 0 bE []).length=9:=ID
          rw[ut I8 I8,z];omega
         .split at a
          .rename_i o
           have m:=qN o;simp only[sRet,List.length_cons,List.length_nil]at m;obtain⟨q,v,F,y⟩:=vQ a;obtain⟨e,B,i,j⟩:=zJ v;injection j with c g;subst c g;have A:=pE_size k.tail i;refine⟨fun t h=>?_,y A.2⟩;have z:xO 8 0 bE [e]=sRet++32::(xv e++[59]):=Q3
           unfold EX at *;rw[ut I8 I8,z];simp only[List.length_append,List.length_cons,List.length_nil,sRet];omega
          .split at a
           .rename_i o
            have m:=qN o;simp only[sPrint,List.length_cons,List.length_nil]at m;obtain⟨q,v,F,y⟩:=vQ a;obtain⟨e,B,i,j⟩:=zJ v;injection j with c g;subst c g;have A:=pI_size k.tail i;refine⟨fun t h=>?_,y A.2⟩;have z:xO 9 0 bE [e]=sPrint++40::(xv e++[41,59]):=Q3
            unfold EX at *;rw[ut I8 I8,z];simp only[List.length_append,List.length_cons,List.length_nil,sPrint];omega
           .obtain⟨q,v,F,y⟩:=vQ a
            have A:=pNm_size k v;refine⟨fun t h=>?_,y A.2⟩;have:=A.1 t;omega
   .rw[pEl]at a
    split at a
    .rename_i o
     have m:=qN o;simp only[sElse,List.length_cons,List.length_nil]at m;obtain⟨b,B,i,j⟩:=zJ a;injection j with c g;subst c g;have x:=I _ _ _ _ k.tail i;refine⟨fun t h=>?_,x.2⟩;have G:=x.1 (t+1) I7;have:=st_len4 e thn b t;split at this <;> omega
    .injection a with c g
     subst c g;refine⟨fun t h=>?_,k⟩;have:=st_len4 e thn [] t;rw[if_pos ID]at this;omega
   .rw[pB]at a
    obtain⟨u,B,i,j⟩:=zJ a;have E:=qS i;have H:=E.1;simp only[List.length_cons,List.length_nil]at H;have p:=K _ _ _ _ _ (E.2 k) j;refine⟨fun t h=>?_,p.2⟩;have:=p.1 t h;rw[stsT_nil]at this;simp only[List.length_nil]at this;omega
   .rw[pBL]at a
    split at a
    .rename_i o
     have m:=qN o;simp only[List.length_cons,List.length_nil]at m;injection a with c g;subst c g;exact⟨fun t h=>I7,k.tail⟩
    .obtain⟨s,B,i,j⟩:=zJ a
     have p:=V _ _ _ _ k i;have x:=K _ _ _ _ _ p.2 j;refine⟨fun t h=>?_,x.2⟩;have G:=p.1 t h;have J:=x.1 t h;rw[stsT_app,stsT_cons,stsT_nil,List.append_nil,List.length_append]at J;omega
theorem pB_size{n:Nat}{d:Int}{l r:List Tok}{b:List St}(k:Tk l)(a:pB n d l=.ok b r):(∀t:Nat,(t:Int)<=d->(kW b t).length+50*xB r+100<=50*xB l)/\Tk r:=(size_stmt n).2.2.1 _ _ _ _ k a
def PX(l:List Pa):Nat:=(xN (l.map paT)).length
theorem PX_snoc(l:List Pa)(x:Pa):PX (l++[x])<=PX l+((tyT x.type).length+x.name.size+3):=by
 unfold PX;rw[List.map_append,List.map_cons,List.map_nil,joinC_snoc,List.length_append,List.length_append]
 have:(paT x).length=(tyT x.type).length+x.name.size+1:=by
  unfold paT;rw[List.length_append,List.length_cons,bsz];omega
 split <;> simp <;> omega
theorem pPL_size:∀(n:Nat) (acc:List Pa) (l:List Tok) (ps:List Pa) (r:List Tok),Tk l->pPL n acc l=.ok ps r->PX ps+50*xB r<=PX acc+50*xB l/\Tk r
 | 0,_,_,_,_,_,h=>by rw[pPL]at h;cases h
 | n+1,acc,l,ps,r,k,h=>by
   rw[pPL]at h;obtain⟨x,A,e,g⟩:=zJ h;obtain⟨v,B,i,a⟩:=zJ g;have b:=pTy_size k e;have w:=us i;have D:=w.1;have E:=w.2.2 b.2.1;have t:=PX_snoc acc ⟨v,x⟩;simp only at t;split at a
   .rename_i q
    have z:=qN q;have d:=pPL_size n _ _ _ _ (w.2.1 b.2.1).tail a;exact⟨I7,d.2⟩
   .obtain⟨u,C,j,m⟩:=zJ a
    injection m with o p;subst o p;have c:=qS j;have y:=c.1;exact⟨I7,c.2 (w.2.1 b.2.1)⟩
theorem pPs_size{n:Nat}{l r:List Tok}{ps:List Pa}(k:Tk l)(c:pPs n l=.ok ps r):PX ps+50*xB r+50<=50*xB l/\Tk r:=by
 unfold pPs at c;obtain⟨u,p,g,a⟩:=zJ c;have b:=qS g;have e:=b.1;simp only[List.length_cons,List.length_nil]at e;have m:PX []=0:=rfl;split at a
 .rename_i j
  have o:=qN j;injection a with h i;subst h i;exact⟨I7,(b.2 k).tail⟩
 .have d:=pPL_size n _ _ _ _ (b.2 k) a
  exact⟨I7,d.2⟩
theorem fu_len(f:Fu):(fuT f).length=(tyT f.type).length+f.name.size+PX f.params+(kW f.body 1).length+8:=by
 unfold fuT PX;simp only[List.length_append,List.length_cons,List.length_nil,bsz];omega
theorem pFn_size{n:Nat}{t:Int}{s:ByteArray}{l r:List Tok}{f:Fu}(k:Tk l)(p:(tyT t).length<=4)(a:pFn n t s l=.ok f r):(fuT f).length+50*xB r+100<=s.size+50*xB l/\Tk r:=by
 unfold pFn at a;obtain⟨ps,q,d,e⟩:=zJ a;obtain⟨b,u,g,h⟩:=zJ e;injection h with i j;subst i j;have m:=pPs_size k d;have c:=pB_size m.2 g;have o:=c.1 1 I8;rw[fu_len];simp only;exact⟨I7,c.2⟩
theorem want0_byt{l r:List Tok}{s:ByteArray}(k:Tk l)(a:want 0 l=.ok s r):xB l=s.size+xB r/\Tk r/\(Lib.itoa ((jj 0 s.data.toList:Nat):Int)).length<=s.size/\1<=s.size:=by
 unfold want at a;split at a
 .rename_i e
  injection a with g a;have d:s.data.toList=hdT l:=by rw[<-g]
  have c:s.size=(hdT l).length:=by rw[<-d];exact(bsz s).symm
  have b:(hdT l).all jv=true/\1<=(hdT l).length:=by
   cases l with
   | nil=>cases e
   | cons t q=>exact(k t Ia).2 e
  refine⟨by rw[c,<-a];exact byt_tail l,a ▸ k.tail,?_,by rw[c];exact b.2⟩;rw[d,c];exact num_len b.1 b.2
 .cases a
theorem ar_len(a:Ar):(arT a).length=a.name.size+(Lib.itoa a.size).length+8:=by
 unfold arT;simp only[List.length_append,List.length_cons,List.length_nil,bsz];omega
theorem pArr_size{s:ByteArray}{l r:List Tok}{a:Ar}(k:Tk l)(b:pArr s l=.ok a r):(arT a).length+50*xB r+100<=s.size+50*xB l/\Tk r:=by
 unfold pArr at b;obtain⟨t,y,h,i⟩:=zJ b;obtain⟨u,z,j,m⟩:=zJ i;obtain⟨v,A,o,p⟩:=zJ m;injection p with q x;subst q x;have w:=want0_byt k h;have B:=w.1;have C:=w.2.2.1;have D:=w.2.2.2;have c:=qS j;have d:=qS o;have e:=c.1;have g:=d.1;simp only[List.length_cons,List.length_nil]at e g;rw[ar_len];simp only;exact⟨I7,d.2 (c.2 w.2.1)⟩
theorem pPr_size:∀(n:Nat) (p:Pr) (l:List Tok) (q:Pr) (r:List Tok),Tk l->pPr n p l=.ok q r->(prT q).length+50*xB r<=(prT p).length+50*xB l
 | 0,_,_,_,_,_,h=>by rw[pPr]at h;cases h
 | n+1,p,l,q,r,k,h=>by
   rw[pPr]at h;split at h
   .injection h with d g
    subst d g;exact Nat.le_refl _
   .obtain⟨B,z,d,g⟩:=zJ h
    obtain⟨y,A,t,i⟩:=zJ g;have b:=pTy_size k d;have w:=us t;have C:=w.1;have D:=w.2.2 b.2.1;split at i
    .rename_i u
     have x:=qN u.2.2;obtain⟨a,v,j,m⟩:=zJ i;have c:=pArr_size (w.2.1 b.2.1).tail j;have o:=pPr_size n _ _ _ _ c.2 m
     have e:(prT ⟨p.arrays++[a],p.funcs⟩).length=(prT p).length+(arT a).length:=by
      exact Ok
     omega
    .obtain⟨f,v,j,m⟩:=zJ i
     have c:=pFn_size (w.2.1 b.2.1) b.2.2 j;have o:=pPr_size n _ _ _ _ c.2 m
     have e:(prT ⟨p.arrays,p.funcs++[f]⟩).length=(prT p).length+(fuT f).length:=by
      exact Ok
     omega
theorem parseT_size{ts r:List Tok}{p:Pr}(k:Tk ts)(a:jl ts=.ok p r):(prT p).length<=50*xB ts:=by
 have:=pPr_size _ _ _ _ _ k a;have e:(prT ⟨[],[]⟩).length=0:=rfl;omega
theorem kindT_dig{t:List UInt8}(a:xg t=some 0):t.all jv=true:=by
 unfold xg at a;split at a
 .injection a with a
  omega
 .split at a
  .injection a with a
   omega
  .split at a
   .rename_i b
    simp only[kT,Bool.and_eq_true,decide_eq_true_eq]at b;exact b.1.1.2
   .cases a
theorem one_tk{l t:List UInt8}{k:Int}(a:one l=some (k,t)):1<=t.length/\t.length<=l.length/\(k=0->t.all jv=true):=by
 unfold one at a;split at a
 .rename_i d
  cases hk:xg (l.takeWhile qO)with
  | none=>rw[hk]at a;cases a
  | some j=>
    rw[hk]at a;injection a with a;injection a with b c;subst b c;exact⟨List.length_pos_iff.2 d,(List.takeWhile_prefix _).length_le,fun e=>kindT_dig (e ▸ hk)⟩
 .split at a
  .rename_i d
   injection a with a;injection a with b c;subst b c;refine⟨List.length_pos_iff.2 d,?_,fun e=>I7⟩;unfold xM;cases hf:uZ.find? (fun t=>Lib.hasPrefix l t)with
   | none=>simp
   | some u=>
     have g:=List.find?_some hf;exact(List.isPrefixOf_iff_prefix.1 g).length_le
  .cases a
theorem scan_tk:∀(n:Nat) (l:List UInt8) (e:Nat) (b:List Tok),l.length<=n->zn l e=(b,none)->Tk b/\xB b<=l.length
 | _,[],e,b,_,a=>by
   rw[zn]at a;injection a with a _;subst a;refine⟨fun t q=>?_,Nat.le_refl _⟩;obtain rfl:=List.mem_singleton.1 q;exact⟨fun a=>Ii,fun a=>Ii⟩
 | 0,c::r,e,b,a,_=>by simp at a
 | n+1,c::r,e,b,hl,a=>by
   simp only[List.length_cons]at hl ⊢;rw[zn]at a;split at a
   .have:=scan_tk n r _ b I7 a
    exact⟨this.1,I7⟩
   .split at a
    .have:=scan_tk n r _ b I7 a
     exact⟨this.1,I7⟩
    .split at a
     .have m:=List.IsSuffix.length_le (List.dropWhile_suffix (l:=r) (fun d:UInt8=>d.toNat != 10))
      have:=scan_tk n _ _ b I7 a;exact⟨this.1,I7⟩
     .split at a
      .cases a
      .rename_i k t p
       have m:(r.drop (t.length-1)).length=r.length-(t.length-1):=List.length_drop;obtain⟨h,w,x⟩:=one_tk p;rw[List.length_cons]at w;injection a with i j;obtain⟨v,y⟩:=scan_tk n (r.drop (t.length-1)) e (zn (r.drop (t.length-1)) e).1 I7 (by rw[<-j]);subst i;refine⟨fun u g=>?_,?_⟩
       .rcases List.mem_cons.1 g with rfl|g
        .exact⟨fun _=>h,fun o=>⟨x o,h⟩⟩
        .exact v u g
       .show t.length+xB _<=_
        omega
theorem parsed_len{l:List UInt8}{e:Nat}{a r:List Tok}{p:Pr}(b:zn l e=(a,none))(d:jl a=.ok p r):(prT p).length<=50*l.length:=by
 have c:=scan_tk _ _ _ _ Zr b;have g:=parseT_size c.1 d;omega
end Go.Proofs.YthcmenajdcbnnaaGreatDoor
