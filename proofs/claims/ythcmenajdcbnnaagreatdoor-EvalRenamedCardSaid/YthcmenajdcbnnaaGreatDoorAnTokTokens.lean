import Derived.Lib.IndexBytes
import Derived.Test.YthcmenajdcbnnaaGreatDoorAnEvDp
set_option linter.unusedSimpArgs false
set_option linter.unusedVariables false
set_option maxRecDepth 100000
set_option maxHeartbeats 99000000
namespace Go.Proofs.YthcmenajdcbnnaaGreatDoor
open Go.RowKit Tryz
theorem Qo{p:Prop}(h:p:=by
 go_meet
 exact⟨rfl,rfl,_,_,m.o,i.o,Dq a _,Zb.alloc Zr _⟩):p:=h
theorem Qp{p:Prop}(h:p:=by
 refine⟨?_,World.block_lt_of_cell? c ⟨g,k*3+2,none⟩ M,?_⟩
 .obtain⟨_,⟨_,c',ae,_,_⟩,_⟩:=l
  injection ae with j _ _;injection j with j;injection j with j _ _;omega
 .obtain⟨_,_⟩:=x.o
  have d:=(zo x.o g rfl).2;simp at d
  omega):p:=h
theorem Qq{p:Prop}(h:p:=by
 go_roundw
 case rel=>exact⟨k+1,O,by go_num,n.o,m.o,yl hb _⟩
 case measure=>simp[intOf];omega):p:=h
theorem Qr{p:Prop}(h:p:=by
 have a:jr d.heap.size (.slice g ts.length j) ts (kg ts).un b:=k.st;rw[D.o]at a
 exact a):p:=h
theorem Qs{p:Prop}(h:p:=by
 have d:jr b.heap.size (.slice n ts.length y) ts (kg ts).un c:=A.st;rw[F.o]at d
 exact d):p:=h
theorem Qt{p:Prop}(h:p:=by
 have:=(List.getElem?_eq_some_iff.1 hb).1;rw[Yq,<-Ya]at this
 omega):p:=h
variable{l t:List UInt8}{w w':C3}{B p n L ln:Nat}{v v1 v0:C4}{ts r:List dY}{k:Int}{s:C2}
theorem t8(l:List UInt8):l.takeWhile q9=l.take (xR l):=List.prefix_iff_eq_take.1 (Cs _)
theorem HD(_:0<xR l):wI l=(yj (l.take (xR l))).map fun k=>(k,l.take (xR l)):=by
 unfold wI
 rw[Dm (by intro e;have:xR l=0:=(by unfold xR;rw[e];rfl);omega),t8]
theorem HE(h:xR l=0):wI l=if yL l≠[]then some (2,yL l)else none:=by
 unfold wI;rw[Dl (by rw[t8,h];simp)]
theorem m6(l:List UInt8):l.take (yL l).length=yL l:=by
 have h:(yL l).isPrefixOf l=true:=by
  unfold yL;cases hf:gJ.find? (fun t=>Lib.hasPrefix l t)with
  |none=>simp
  |some t=>exact List.find?_some (p:=fun t=>Lib.hasPrefix l t) hf
 exact(List.prefix_iff_eq_take.1 (List.isPrefixOf_iff_prefix.1 h)).symm
theorem VL(l:List UInt8):(yL l).length<=l.length:=by
 have:=congrArg List.length (m6 l);rw[Yc]at this;omega
theorem ue.below(h:ue w B v ts)(hb:Cx w w'):ue w' B v ts:=qD h hb Zr
theorem m7(a:wI l=some (k,t)):l.take t.length=t/\0<t.length/\t.length<=l.length:=by
 by_cases d:0<xR l
 .rw[HD d]at a
  obtain⟨g,_,e⟩:=Option.map_eq_some_iff.1 a;injection e with c b;subst b;have:=QW l;rw[Yc];exact⟨by rw[Y6 this],O,O⟩
 .rw[HE O]at a
  split at a
  .rename_i f
   injection a with a;injection a with c b;subst b;exact⟨m6 l,List.length_pos_iff.2 f,VL l⟩
  .cases a
def xj(w:C3)(l:List UInt8)(e:Ending)(w':C3):Prop:=
 Cx w w'/\match (qE l 1).2 with
  |none=>∃v,e=.returned (.tuple #[v,.int .i64 0,.int .i64 0])/\ue w' w.heap.size v (qE l 1).1
  |some ln=>e=.returned (.tuple #[.slice none 0 0,.int .i64 20,.int .i64 (ln:Int)])
theorem ue.nil(w:C3)(B:Nat):ue w B (.slice none 0 0) []:=⟨rfl,.inl ⟨rfl,rfl⟩⟩
theorem VM{line:Nat}(d:nC l=0)(a:wI l=some (k,t)):
 qE l line=(⟨k,t,line⟩::(qE (l.drop t.length) line).1,(qE (l.drop t.length) line).2):=by
 obtain⟨_,_,b⟩:=m7 a;cases l with
 |nil=>rw[Du]at b;omega
 |cons c r=>
   rw[x8 d,a]
   have e:(c::r).drop t.length=r.drop (t.length-1):=by
    obtain⟨m,f⟩:∃m,t.length=m+1:=⟨t.length-1,O⟩
    rw[f,List.drop_succ_cons];rfl
   rw[e]
theorem VN{line:Nat}(b:nC l=0)(d:l≠[])(a:wI l=none):qE l line=([],some line):=by
 cases l with
 |nil=>exact absurd rfl d
 |cons c r=>rw[x8 b,a]
theorem VO(line:Nat):qE [] line=([⟨3,[],line⟩],none):=by rw[qE]
def vg:List (List UInt8):=[[60,60],[62,62],[60,61],[62,61],[61,61],[33,61],[38,38],[124,124]]
def kV:List (List UInt8):=[62,62,62]::(vg++BX)
def KI:Array C4:=(kV.map fun t=>Value.string ⟨t.toArray⟩).toArray
theorem P6(k:Nat)(b:k<30):∃t,kV[k]?=some t/\KI[k]?=some (.string ⟨t.toArray⟩):=by
 have a:k<kV.length:=by simpa[kV,vg,BX]using b
 refine⟨kV[k],Dz a,?_⟩;unfold KI;rw[List.getElem?_toArray,Yl,Dz a];rfl
theorem P7{α:Type}(p:α->Bool)(b e:List α)(d:∀a,a∈b↔a∈e)(g:∀a v,a∈b->v∈b->p a=true->p v=true->a=v):b.find? p=e.find? p:=by
 cases hx:b.find? p with
 |none=>
   rw[List.find?_eq_none]at hx;exact(List.find?_eq_none.2 fun a c=>hx a ((d a).2 c)).symm
 |some a=>
   have f:=List.find?_some hx;have c:=List.mem_of_find?_eq_some hx;cases hy:e.find? p with
   |none=>exact absurd f (List.find?_eq_none.1 hy a ((d a).1 c))
   |some v=>rw[g a v c ((d v).2 (List.mem_of_find?_eq_some hy)) f (List.find?_some hy)]
theorem j5(l:List UInt8):kV.find? (fun t=>Lib.hasPrefix l t)=gJ.find? (fun t=>Lib.hasPrefix l t):=by
 have a:vg.find? (fun t=>Lib.hasPrefix l t)=H8.find? (fun t=>Lib.hasPrefix l t):=by
  refine P7 _ _ _ (fun e=>(show vg.Perm H8 by decide).mem_iff) (fun e v g i f a=>?_);have d:∀x,x∈vg->x.length=2:=Up
  have b:=List.prefix_iff_eq_take.1 (List.isPrefixOf_iff_prefix.1 f);have c:=List.prefix_iff_eq_take.1 (List.isPrefixOf_iff_prefix.1 a);rw[d e g]at b;rw[d v i]at c;rw[b,c]
 unfold kV gJ;rw[List.find?_cons,List.find?_cons,List.find?_append,List.find?_append,a]
theorem HF(l:List UInt8)(k:Nat)(t:List UInt8)(b:kV[k]?=some t)(hp:Lib.hasPrefix l t=true)(c:∀(j:Nat) a,j<k->kV[j]?=some a->Lib.hasPrefix l a=false):yL l=t:=by
 unfold yL;rw[<-j5,rN (fun t=>Lib.hasPrefix l t) _ k t b hp c];rfl
theorem x4(l:List UInt8)(b:∀(j:Nat) a,kV[j]?=some a->Lib.hasPrefix l a=false):yL l=[]:=by
 unfold yL;rw[<-j5,H9 (fun t=>Lib.hasPrefix l t) _ b];rfl
theorem pM(s a:C2)(t:List UInt8)(e:(⟨t.toArray⟩:C2)=a)(c:a.size<=s.size):((s.extract 0 a.size).toList == a.toList)=Lib.hasPrefix s.data.toList t:=by
 subst e;have d:(⟨t.toArray⟩:C2).toList=t:=by rw[Yh]
 have b:(⟨t.toArray⟩:C2).size=t.length:=rfl;rw[b]at c;rw[<-Lib.hasPrefix_of_take,Lib.extract_toList,d,b,decide_eq_true (by rw[<-Ya];exact c),Bool.true_and];rfl
theorem t9(s b:C2)(t:List UInt8)(d:(⟨t.toArray⟩:C2)=b)(a:¬b.size<=s.size):Lib.hasPrefix s.data.toList t=false:=by
 subst d;have c:(⟨t.toArray⟩:C2).size=t.length:=rfl;rw[c]at a;rw[<-Lib.hasPrefix_of_take,decide_eq_false (by rw[<-Ya];exact a),Bool.false_and]
theorem P8(s:C2)(w:C3):
 Cy 52 #[s] w (Cv (.string ⟨(yL s.data.toList).toArray⟩) w):=by
 go_enter func52,ntmps52;go_wp2
 go_loopw [4] (fun i wr=>∃k:Nat,k<=30/\i=.int .i64 k/\(∀(j:Nat) b,j<k->kV[j]?=some b->Lib.hasPrefix s.data.toList b=false)/\Is wr w.heap.size 9 KI/\Cx w wr) (fun i _=>30-(intOf i).toNat)
 case atStart=>exact⟨0,O,rfl,fun j b y=>absurd y O,Dq w _,Zb.alloc Zr _⟩
 case round=>
  obtain⟨k,_,rfl,x,v,hb⟩:=hrel;have l:=U x;have m:=U v;clear x v;by_cases A:k<30
  .obtain⟨t,z,p⟩:=P6 k A
   obtain⟨a,q⟩:∃a:C2,(⟨t.toArray⟩:C2)=a:=⟨_,rfl⟩
   rw[q]at p;have B:wr.cell? (w.heap.size,k)=some (.string a):=(m.o.cell k).trans p;have r:=U z;have f:=U q;clear z p q
   have u:Dk (Lib.hasPrefix s.data.toList t=false->∀(j:Nat) b,j<k+1->kV[j]?=some b->Lib.hasPrefix s.data.toList b=false):=by
    intro hp j b y d;by_cases e:j=k
    .subst e
     have:=r.o.symm.trans d;injection this with this;exact this▸hp
    .exact l.o j b O d
   by_cases g:a.size<=s.size
   .go_wp2
    go_quiet (fail)
    go_wp2
    .have c:((s.extract 0 a.size).toList == a.toList)=true:=by assumption
     rw[pM s a t f.o g]at c;go_ret;rw[HF _ k t r.o c l.o,f.o];exact⟨rfl,yl hb _⟩
    .have c:((s.extract 0 a.size).toList == a.toList)=false:=by assumption
     rw[pM s a t f.o g]at c;have n:=U (u.o c);clear c;exact Qq
   .have C:decide (a.size<=s.size)=false:=by simpa using g
    have n:=U (u.o (t9 s a t f.o g));go_wp2
    go_quiet (fail)
    go_wp2;exact Qq
  .have e:k=30:=by omega
   subst e;go_wp2;go_ret;rw[x4 _ (fun j b d=>l.o j b (by have:=(List.getElem?_eq_some_iff.1 d).1;simpa[kV,vg,BX]using this) d)];exact⟨rfl,hb⟩
theorem HG(s t:C2)(h:(⟨(yL s.data.toList).toArray⟩:C2)=t)(w:C3):
 Cy 52 #[s] w (Cv t w):=h▸P8 s w
theorem m8(s:C2)(k:Nat)(a:k<s.size)(i c:Int)(d:i=k)(b:(s[k].toNat:Int)=c)(w:C3):(Instr.index 9 (.string s) (.int .i64 i)).run Tryz.prog w=.ok (.int .u8 c) w:=by
 subst d;exact fF s k a c b w
theorem m9(s:C2)(p n:Nat)(h:p+n<s.size):(s.data.toList.drop p)[n]?=some s[p+n]:=by
 rw[List.getElem?_drop,uM s (p+n) h]
theorem BQ(_:p+n<=s.size)(c:∀(j:Nat) b,j<n->(s.data.toList.drop p)[j]?=some b->q9 b=true)(d:∀_:p+n<s.size,q9 s[p+n]=false):xR (s.data.toList.drop p)=n:=by
 refine lR q9 _ n (by rw[Yq,<-Ya];omega) c (fun b hb=>?_)
 have a:p+n<s.size:=by
  exact Qt
 rw[m9 s p n a]at hb;injection hb with hb;exact hb▸d a
theorem P9(d:p+n<s.size)(a:∀(j:Nat) b,j<n->(s.data.toList.drop p)[j]?=some b->q9 b=true)(c:q9 s[p+n]=true):
 ∀(j:Nat) b,j<n+1->(s.data.toList.drop p)[j]?=some b->q9 b=true:=by
 intro j b _ hb;by_cases e:j=n
 .subst e
  rw[m9 s p j d]at hb;injection hb with hb;exact hb▸c
 .exact a j b O hb
def v6(w:C3)(s:C2)(ov c b:C4)(wr:C3):Prop:=
 ∃(a line:Nat) (ts:List dY),b=.int .i64 a/\c=.int .i64 line/\a<=s.size/\line<=a+1/\ts.length<=a/\ue wr w.heap.size ov ts/\Cx w wr/\
   qE s.data.toList 1=(ts++(qE (s.data.toList.drop a) line).1,(qE (s.data.toList.drop a) line).2)
theorem DN(s:C2)(w:C3)(a:100000<s.size):Cy 26 #[s] w (Cw (.tuple #[(),(2:Int),(0:Int)]) w):=by
 have b:decide ((100000 :Int)<s.size)=true:=Uq
 clear a;go_enter func26,ntmps26;go_wp2
 go_ret3
 exact⟨rfl,rfl⟩
theorem ku(s:C2)(p:Nat)(h:p<s.size):s.data.toList.drop p=s[p]::s.data.toList.drop (p+1):=by
 rw[List.drop_eq_getElem_cons (by rw[<-Ya];exact h)];rfl
theorem Z8{c:UInt8}{r:List UInt8}(line:Nat)(h:c.toNat=10):qE (c::r) line=qE r (line+1):=by
 rw[qE,Dm (by simp[h])]
theorem VP{c:UInt8}{r:List UInt8}(line:Nat)(a:yi c=true)(b:c.toNat≠10):qE (c::r) line=qE r line:=by
 rw[qE,Dl Uz,Dm a]
theorem VQ(line:Nat)(h:Lib.hasPrefix l [47,47]=true):qE l line=qE (l.drop (l.takeWhile (fun d=>d.toNat != 10)).length) line:=by
 have:=QY l line;unfold nC at this;rw[Dm h,KY]at this;exact this
section
variable {w wr:C3}{s:C2}{p line:Nat}{ov:C4}{ts:List dY}(hp:p<s.size)(hlp:line<=p+1)(htl:ts.length<=p)(hO:ue wr w.heap.size ov ts)(hb:Cx w wr)
 (hsc:qE s.data.toList 1=(ts++(qE (s.data.toList.drop p) line).1,(qE (s.data.toList.drop p) line).2))
include hp hlp htl hO hb hsc
theorem zb3(X:Obj)(a:s[p].toNat=10):v6 w s ov (.int .i64 ((line:Int)+1)) (.int .i64 ((p:Int)+1)) (wr.alloc X):=by
 have b:Cx wr (wr.alloc X):=Zb.alloc Zr _;refine⟨p+1,line+1,ts,by go_num,by go_num,hp,O,O,hO.below b,hb.alloc hb.size _,?_⟩;rw[hsc,ku s p hp,Z8 line a]
theorem Z9(X:Obj)(a:yi s[p]=true)(b:s[p].toNat≠10):v6 w s ov (.int .i64 line) (.int .i64 ((p:Int)+1)) (wr.alloc X):=by
 have c:Cx wr (wr.alloc X):=Zb.alloc Zr _;refine⟨p+1,line,ts,by go_num,rfl,hp,O,O,hO.below c,hb.alloc hb.size _,?_⟩;rw[hsc,ku s p hp,VP line a b]
omit hp in
theorem zaa(X:Obj)(q:Nat)(c:q<=s.size)(_:p<=q)(a:Lib.hasPrefix (s.data.toList.drop p) [47,47]=true)(e:((s.data.toList.drop p).takeWhile (fun d=>d.toNat != 10)).length=q-p):v6 w s ov (.int .i64 line) (.int .i64 (q:Int)) (wr.alloc X):=by
 have b:Cx wr (wr.alloc X):=Zb.alloc Zr _;refine⟨q,line,ts,rfl,rfl,c,O,O,hO.below b,hb.alloc hb.size _,?_⟩;rw[hsc,VQ line a,e,List.drop_drop,show p+(q-p)=q by omega]
end
theorem VS{c:UInt8}(_:(c.toNat:Int)=32\/(c.toNat:Int)=9\/(c.toNat:Int)=13):yi c=true/\c.toNat≠10:=by
 unfold yi;refine⟨?_,O⟩;simp;omega
theorem KJ(s:C2)(p:Nat)(c:p+1<s.size)(_:(s[p].toNat:Int)=47)(_:(s[p+1].toNat:Int)=47):Lib.hasPrefix (s.data.toList.drop p) [47,47]=true:=by
 rw[ku s p O,ku s (p+1) c];have a:s[p]=47:=UInt8.toNat_inj.1 (by show s[p].toNat=47;omega);have b:s[p+1]=47:=UInt8.toNat_inj.1 (by show s[p+1].toNat=47;omega);rw[a,b];rfl
theorem HH{q:Nat}(_:p<=q)(_:q<=s.size)(a:∀(j:Nat) b,j<q-p->(s.data.toList.drop p)[j]?=some b->(b.toNat != 10)=true)(c:∀_:q<s.size,s[q].toNat=10):
 ((s.data.toList.drop p).takeWhile (fun d=>d.toNat != 10)).length=q-p:=by
 refine lR _ _ (q-p) (by rw[Yq,<-Ya];omega) a (fun b hb=>?_)
 have f:p+(q-p)<s.size:=by
  exact Qt
 rw[m9 s p (q-p) f]at hb;injection hb with hb;have e:=c O;simp only[show p+(q-p)=q by omega]at hb;rw[<-hb,e];rfl
theorem VT{q:Nat}(_:p<=q)(_:q<s.size)(a:∀(j:Nat) b,j<q-p->(s.data.toList.drop p)[j]?=some b->(b.toNat != 10)=true)(c:s[q].toNat≠10):
 ∀(j:Nat) b,j<q+1-p->(s.data.toList.drop p)[j]?=some b->(b.toNat != 10)=true:=by
 intro j b _ hb;by_cases e:j=q-p
 .subst e
  rw[m9 s p (q-p) O]at hb;injection hb with hb;simp only[show p+(q-p)=q by omega]at hb;rw[<-hb];simpa using c
 .exact a j b O hb
theorem QA(hp:p<s.size)(a:xR (s.data.toList.drop p)=n)(_:0<n):q9 s[p]=true:=by
 rw[ku s p hp]at a;unfold xR at a;cases h:q9 s[p]with
 |true=>rfl
 |false=>
   rw[List.takeWhile_cons_of_neg (by simp[h])]at a;simp at a;omega
theorem VU(s:C2)(p:Nat)(hp:p<s.size)(hb:yi s[p]=false)(f:¬((s[p].toNat:Int)=47/\∃b:p+1<s.size,(s[p+1].toNat:Int)=47)):nC (s.data.toList.drop p)=0:=by
 unfold nC;split
 .rename_i d
  exfalso;obtain⟨r,e⟩:=vj d
  have b:p+1<s.size:=by
   have:=congrArg List.length e;rw[Yq,<-Ya]at this;simp at this;omega
  rw[ku s p hp,ku s (p+1) b]at e;injection e with c a;injection a with a g;exact f ⟨by rw[c];rfl,b,by rw[a];rfl⟩
 .rw[ku s p hp,List.takeWhile_cons_of_neg (by simp[hb])]
  rfl
theorem VV{c:UInt8}(_:(c.toNat:Int)≠10)(_:¬((c.toNat:Int)=32\/(c.toNat:Int)=9\/(c.toNat:Int)=13)):yi c=false:=by
 unfold yi;simp;omega
theorem QB(h:xO t=true):yj t=some 2:=by unfold yj;rw[h];rfl
theorem QC{c:UInt8}(a:xO (c::t)=false)(b:ui c=true):yj (c::t)=if xC (c::t)then some 1 else none:=by
 unfold yj
 have d:xQ (c::t)=false:=by
  unfold xQ;rw[Ca,i6 c b];simp
 rw[a,d];rfl
theorem VW{c:UInt8}(a:xO (c::t)=false)(b:ui c=false):yj (c::t)=if xQ (c::t)then some 0 else none:=by
 unfold yj
 have d:xC (c::t)=false:=by
  unfold xC;rw[Cn,b];simp
 rw[a,d];rfl
def za3(b c a:Bool):Option Int:=if c then some 2 else if b then(if a then some 1 else none)else if a then some 0 else none
theorem VX(hp:p<s.size)(i:xR (s.data.toList.drop p)=n)(_:0<n)(b c f:Bool)(e:ul (s[p].toNat:Int)=b)(d:xO (s.extract p (p+n)).data.toList=c)
 (a:c=false->(if b then xC (s.extract p (p+n)).data.toList else xQ (s.extract p (p+n)).data.toList)=f):
 wI (s.data.toList.drop p)=(za3 b c f).map fun k=>(k,(s.extract p (p+n)).data.toList):=by
 have g:(s.extract p (p+n)).data.toList=(s.data.toList.drop p).take n:=by rw[Lib.extract_data,show p+n-p=n by omega]
 rw[HD O,i,<-g];congr 1;obtain⟨m,rfl⟩:∃m,n=m+1:=⟨n-1,O⟩
 rw[g,ku s p hp,Y3]at d a ⊢;rw[hU]at e;unfold za3;cases c with
 |true=>rw[QB d];rfl
 |false=>
   have a:=a rfl;cases b with
   |true=>
     rw[QC d e];rw[Dm rfl]at a;rw[a];rfl
   |false=>
     rw[VW d e];rw[Dl Ur]at a;rw[a];rfl
theorem MF(a:C3)(B:Nat)(v:C4)(ts:List dY)(k:Int)(b:C2)(line:Nat)(hO:ue a B v ts)(d:B<=a.heap.size):
 (a.alloc (.cells #[(k:Int),b,(line:Int)] 57)).ownsRow B 57 3 v ts.length (jT ts)/\
 (∀j c,[Value.int .i64 k,.string b,.int .i64 line][j]?=some c->(a.alloc (.cells #[(k:Int),b,(line:Int)] 57)).cell? ((⟨a.heap.size,0,none⟩:Addr).add j)=some c)/\
 B<=(a.alloc (.cells #[(k:Int),b,(line:Int)] 57)).heap.size:=by
 have hb:Cx a (a.alloc (.cells #[(k:Int),b,(line:Int)] 57)):=Zb.alloc Zr _;refine⟨qD hO hb Zr,fun j c e=>?_,Dr d hb.size⟩;rw[show(⟨a.heap.size,0,none⟩:Addr).add j=⟨a.heap.size,j,none⟩by unfold Addr.add;split<;>simp_all];exact(cell_of_row _ a.heap.size j _ _ (0,0) (Dq a _)).trans Ku
theorem HI(s:C2)(p:Nat)(c:Int)(f:¬(c=47/\∃_:p+1<s.size,(s[p+1].toNat:Int)=47)):
 (c == 47)=false\/(c=47/\decide ((p:Int)+1<s.size)=false)\/(c=47/\∃d:Int,(d == 47)=false/\(p:Int)+1<s.size/\∀w,(Instr.index 9 (.string s) (.int .i64 ((p:Int)+1))).run Tryz.prog w=.ok (.int .u8 d) w):=by
 by_cases a:c=47
 .by_cases b:p+1<s.size
  .refine .inr (.inr ⟨a,_,?_,O,m8 s (p+1) b _ _ O rfl⟩)
   simpa using fun e=>f ⟨a,b,e⟩
  .exact .inr (.inl ⟨a,Uq⟩)
 .exact .inl Uy
theorem zdv(a:C3)(B:Nat)(v:C4)(ts:List dY)(k:Int)(b:C2)(line:Nat)(hO:ue a B v ts)(d:B<=a.heap.size):
 ((a.alloc (.cells #[(k:Int),b,(line:Int)] 57)).alloc (.cells #[(k:Int),b,(line:Int)] 57)).ownsRow B 57 3 v ts.length (jT ts)/\
 (∀j c,[Value.int .i64 k,.string b,.int .i64 line][j]?=some c->((a.alloc (.cells #[(k:Int),b,(line:Int)] 57)).alloc (.cells #[(k:Int),b,(line:Int)] 57)).cell? ((⟨a.heap.size+1,0,none⟩:Addr).add j)=some c)/\
 B<=((a.alloc (.cells #[(k:Int),b,(line:Int)] 57)).alloc (.cells #[(k:Int),b,(line:Int)] 57)).heap.size:=by
 have hb:Cx a ((a.alloc (.cells #[(k:Int),b,(line:Int)] 57)).alloc (.cells #[(k:Int),b,(line:Int)] 57)):=
  (Zb.alloc Zr _).alloc Ur _
 refine⟨qD hO hb Zr,fun j c e=>?_,Dr d hb.size⟩;rw[show(⟨a.heap.size+1,0,none⟩:Addr).add j=⟨a.heap.size+1,j,none⟩by unfold Addr.add;split<;>simp_all];exact(cell_of_row _ (a.heap.size+1) j _ _ (0,0) (heap_alloc2_new a _ _)).trans Ku
theorem zab{wr a:C3}{line:Nat}{ov v1:C4}{X:Obj}(hp:p=s.size)(hb:Cx w wr)(l:qE s.data.toList 1=(ts++(qE (s.data.toList.drop p) line).1,(qE (s.data.toList.drop p) line).2))
 (hO:ue wr w.heap.size ov ts) (j:a.ownsRow w.heap.size 57 3 v1 (ts.length+1) (jT ts++[.int .i64 3,.string ⟨#[]⟩,.int .i64 line])) (f:(wr.alloc X).grownBy a ov.ownBlock):
 xj w s.data.toList (.returned (.tuple #[v1,(0:Int),(0:Int)])) a:=by
 have i:s.data.toList.drop p=[]:=List.drop_eq_nil_of_le (by rw[<-Ya];omega);have e:qE s.data.toList 1=(ts++[⟨3,[],line⟩],none):=by rw[l,i,VO]
 have b:Cx wr (wr.alloc X):=Zb.alloc Zr _;have d:ue (wr.alloc X) w.heap.size ov ts:=hO.below b;have c:=hb.trans (b.mono hb.size);unfold xj;rw[e];refine⟨c.grown f c.size (fun k g=>(zo d k g).2),v1,rfl,?_⟩;unfold ue;rw[i7,Dn];exact j
section
variable {w wr:C3}{s:C2}{p line:Nat}{ov:C4}{ts:List dY}(hp:p<s.size)(hlp:line<=p+1)(htl:ts.length<=p)(hO:ue wr w.heap.size ov ts)(hb:Cx w wr)
 (hsc:qE s.data.toList 1=(ts++(qE (s.data.toList.drop p) line).1,(qE (s.data.toList.drop p) line).2)) (hgap:nC (s.data.toList.drop p)=0)
include hp hlp htl hO hb hsc hgap
theorem zac{W:C3}(k:Int)(a:C2)(e:wI (s.data.toList.drop p)=some (k,a.data.toList))(d:Cx wr W)(b:C3)(v1:C4)
 (m:b.ownsRow w.heap.size 57 3 v1 (ts.length+1) (jT ts++[.int .i64 k,.string a,.int .i64 line])) (j:W.grownBy b ov.ownBlock):
 v6 w s v1 (.int .i64 line) (.int .i64 ((p:Int)+a.size)) b:=by
 obtain⟨_,f,g⟩:=m7 e;rw[Yq,<-Ya,<-Ya]at g;rw[<-Ya]at f;have c:Cx w W:=hb.trans (d.mono hb.size);have i:ue W w.heap.size ov ts:=hO.below d;refine⟨p+a.size,line,ts++[⟨k,a.data.toList,line⟩],by go_num,rfl,O,O,by rw[Dn];simp;omega,?_,c.grown j c.size (fun k l=>(zo i k l).2),?_⟩
 .unfold ue
  rw[i7,Dn,Lib.mk_data];exact m
 .rw[hsc,VM hgap e,List.drop_drop,<-Ya]
  simp
omit hlp htl hO in
theorem DO(d:wI (s.data.toList.drop p)=none)(a:C3)(b:Cx wr a):xj w s.data.toList (.returned (.tuple #[(),(20:Int),((line:Int):Int)])) a:=by
 have c:s.data.toList.drop p≠[]:=by rw[ku s p hp];simp
 have e:qE s.data.toList 1=(ts,some line):=by rw[hsc,VN hgap c d];simp
 unfold xj;rw[e];exact⟨hb.trans (b.mono hb.size),rfl⟩
end
theorem pO(s:C2)(w:C3)(ap:s.size<=100000):Cy 26 #[s] w (xj w s.data.toList):=by
 have bi:decide ((100000 :Int)<s.size)=false:=Uq
 go_enter func26,ntmps26;go_wp2
 go_loopw [5,6,7] (fun ov aD B wr=>v6 w s ov aD B wr) (fun _ _ B _=>s.size-(intOf B).toNat)
 case atStart=>exact⟨0,1,[],rfl,rfl,Dw _,O,Dw _,ue.nil _ _,D1 _ _,rfl⟩
 case round=>
  obtain⟨p,line,ts,rfl,rfl,hp,hlp,htl,hO,hb,aR⟩:=hrel;have G:=U hO;have C:=U aR;clear hO aR;obtain⟨a,rfl⟩:∃a:C3,a=wr:=⟨_,rfl⟩
  by_cases v:p<s.size
  .have a9:(p:Int)<s.size:=by omega
   go_upto_block 2 with fail
   go_cut [9] (fun aE y=>a.alloc (.cells #[(0:Int),.string ⟨#[]⟩,(line:Int)] 57)=y/\∃n:Nat,p+n<=s.size/\aE=.int .i64 n/\xR (s.data.toList.drop p)=n)
   case first=>
    go_wp2_with fail
    go_loopg [9] s.size (fun g aE y=>a.alloc (.cells #[(0:Int),.string ⟨#[]⟩,(line:Int)] 57)=y/\∃n:Nat,p+n<=s.size/\g=s.size-n/\aE=.int .i64 n/\∀(j:Nat) b,j<n->(s.data.toList.drop p)[j]?=some b->q9 b=true)
    case atStart=>exact⟨rfl,0,O,rfl,rfl,fun j b av=>absurd av O⟩
    case round=>
     obtain⟨rfl,n,aw,rfl,rfl,R⟩:=hrel;have E:=U R;clear R;by_cases D:p+n<s.size
     .obtain⟨c,J⟩:∃c:Int,(s[p+n].toNat:Int)=c:=⟨_,rfl⟩
      have a2:=m8 s (p+n) D ((p:Int)+n) c O J;obtain⟨M,I⟩:=Cz (ul c);obtain⟨N,l⟩:=Cz (gK c);have aG:Dk (q9 s[p+n]=(M || N)):=by unfold Dk q9;rw[<-I,<-l,<-J,hU,hV]
      have r:=U I;have f:=U l;clear I l J;cases M<;>cases N
      all_goals
       go_wp2_with (first|(go_at_call 47;(with_reducible refine(jX _ _ r.o _).mono ?_);rintro e w' ⟨rfl,rfl⟩)|(go_at_call 48;(with_reducible refine(nE _ _ f.o _).mono ?_);rintro e w' ⟨rfl,rfl⟩))
      .go_meet
       exact⟨rfl,n,aw,rfl,BQ O E.o (fun _=>aG.o)⟩
      all_goals
       go_roundg (s.size-(n+1))
       case measure=>omega
       case rel=>exact⟨rfl,n+1,O,rfl,by go_num,P9 D E.o aG.o⟩
     .go_wp2
      go_meet
      exact⟨rfl,n,aw,rfl,BQ O E.o (fun K=>absurd K D)⟩
   case rest=>
    obtain⟨rfl,n,aw,rfl,aS⟩:=hcut;have ao:=U aS;clear aS
    go_upto_block 4 with fail
    go_cut [6,7] (fun aD B y=>aD=.int .i64 line/\B=.int .i64 p/\∃(k:Int) (x:C2),nC (s.data.toList.drop p)=0/\wI (s.data.toList.drop p)=some (k,x.data.toList)/\Is y a.heap.size 57 #[(k:Int),x,(line:Int)]/\Cx a y)
    case first=>
     obtain⟨c,J⟩:∃c:Int,(s[p].toNat:Int)=c:=⟨_,rfl⟩
     have a2:=m8 s p v (p:Int) c rfl J;have z:=U J;clear J;by_cases ae:c=10
     .subst ae
      go_wp2;go_roundw
      case rel=>exact zb3 v hlp htl G.o hb C.o _ (by have:=z.o;omega)
      case measure=>simp[intOf];omega
     by_cases ag:c=32\/c=9\/c=13
     .have aF:Dk (yi s[p]=true/\s[p].toNat≠10):=VS (by rw[z.o];exact ag)
      rcases ag with rfl|rfl|rfl
      all_goals
       go_wp2;go_roundw
       case rel=>exact Z9 v hlp htl G.o hb C.o _ aF.o.1 aF.o.2
       case measure=>simp[intOf];omega
     have a4:(c == 10)=false:=by simpa using ae
     have a6:(c == 32)=false:=Uq
     have a7:(c == 9)=false:=Uq
     have a5:(c == 13)=false:=Uq
     by_cases S:c=47/\∃K:p+1<s.size,(s[p+1].toNat:Int)=47
     .obtain⟨rfl,K,aq⟩:=S
      have aO:=m8 s (p+1) K ((p:Int)+1) 47 O aq;have bm:(p:Int)+1<s.size:=O
      have aV:=U (KJ s p K z.o aq);clear aq ae ag a4 a6 a7 a5
      go_upto_block 5 with fail
      go_cut [7] (fun B y=>a.alloc (.cells #[(0:Int),.string ⟨#[]⟩,(line:Int)] 57)=y/\∃q:Nat,p<q/\q<=s.size/\B=.int .i64 q/\((s.data.toList.drop p).takeWhile (fun d=>d.toNat != 10)).length=q-p)
      case first=>
       go_wp2_with fail
       go_loopg [7] (s.size-p) (fun g B y=>a.alloc (.cells #[(0:Int),.string ⟨#[]⟩,(line:Int)] 57)=y/\∃q:Nat,p<=q/\q<=s.size/\g=s.size-q/\B=.int .i64 q/\∀(j:Nat) b,j<q-p->(s.data.toList.drop p)[j]?=some b->(b.toNat != 10)=true)
       case atStart=>exact⟨rfl,p,Dy _,hp,rfl,rfl,fun j b av=>absurd av O⟩
       case round=>
        obtain⟨rfl,q,ak,P,rfl,rfl,R⟩:=hrel;have E:=U R;clear R;by_cases D:q<s.size
        .obtain⟨d,au⟩:∃d:Int,(s[q].toNat:Int)=d:=⟨_,rfl⟩
         have bl:=m8 s q D (q:Int) d rfl au;have al:=U au;clear au;by_cases aM:d=10
         .subst aM
          have a8:p<q:=by
           rcases Cc p q with ap|ap
           .exact ap
           .obtain rfl:p=q:=by omega
            have bh:=z.o;have aY:=al.o;omega
          go_wp2
          go_meet
          exact⟨rfl,q,a8,P,rfl,HH ak P E.o (fun _=>by have:=al.o;omega)⟩
         .have bj:(d != 10)=true:=by simpa using aM
          go_wp2
          go_roundg (s.size-(q+1))
          case measure=>omega
          case rel=>exact⟨rfl,q+1,O,D,rfl,by go_num,VT ak D E.o (by have:=al.o;omega)⟩
        .go_wp2
         go_meet
         exact⟨rfl,q,O,P,rfl,HH ak P E.o (fun K=>absurd K D)⟩
      case rest=>
       obtain⟨rfl,q,ak,P,rfl,aU⟩:=hcut;have aX:=U aU;clear aU;go_wp2;go_roundw
       case rel=>exact zaa hlp htl G.o hb C.o _ q P O aV.o aX.o
       case measure=>simp[intOf];omega
     .have m:=U (VU s p v (VV (by rw[z.o];exact ae) (by rw[z.o];exact ag)) (by rw[z.o];exact S))
      by_cases ab:0<n
      .have aP:(c == 47)=false:=by
        have ad:=QA v ao.o ab;rw[Ci];intro e;have aY:=z.o;simp at e;simp[q9,ui,kK]at ad;omega
       obtain⟨M,I⟩:=Cz (ul c);obtain⟨N,l⟩:=Cz (xO (s.extract p (p+n)).data.toList);obtain⟨aL,ar⟩:∃b,(N=false->(if M then xC (s.extract p (p+n)).data.toList else xQ (s.extract p (p+n)).data.toList)=b):=⟨_,fun _=>rfl⟩
       have i:=U (VX v ao.o ab M N aL (by rw[z.o];exact I) l ar);have r:=U I;have f:=U l;have aa:=U ar;have Q:Dk ((s.extract p (p+n)).size=n):=by unfold Dk;rw[Ya,Lib.extract_data,Yc,Yq,<-Ya];omega
       have aJ:Dk (0<(s.extract p (p+n)).size):=by unfold Dk;rw[Q.o];exact ab
       have aK:Dk ((s.extract p (p+n)).size<=281474976710656):=by unfold Dk;rw[Q.o];omega
       have ba:(s.extract p (p+n)).size<=100000:=by rw[Q.o];omega
       clear I l ar S;cases M<;>cases N<;>cases aL
       .have F:Dk (xQ (s.extract p (p+n)).data.toList=false):=aa.o rfl
        go_wp2_with (first|(go_at_call 47;(with_reducible refine(jX _ _ r.o _).mono ?_);rintro e w' ⟨rfl,rfl⟩)|(go_at_call 49;(with_reducible refine(xS _ _ f.o _).mono ?_);rintro e w' ⟨rfl,rfl⟩)|(go_at_call 51;(with_reducible refine(oY _ _ aJ.o aK.o _ F.o).mono ?_);rintro e w' ⟨rfl,rfl⟩))
        go_ret3
        exact DO v hb C.o m.o i.o _ (Zb.alloc Zr _)
       .have F:Dk (xQ (s.extract p (p+n)).data.toList=true):=aa.o rfl
        go_wp2_with (first|(go_at_call 47;(with_reducible refine(jX _ _ r.o _).mono ?_);rintro e w' ⟨rfl,rfl⟩)|(go_at_call 49;(with_reducible refine(xS _ _ f.o _).mono ?_);rintro e w' ⟨rfl,rfl⟩)|(go_at_call 51;(with_reducible refine(oY _ _ aJ.o aK.o _ F.o).mono ?_);rintro e w' ⟨rfl,rfl⟩));exact Qo
       .go_wp2_with (first|(go_at_call 47;(with_reducible refine(jX _ _ r.o _).mono ?_);rintro e w' ⟨rfl,rfl⟩)|(go_at_call 49;(with_reducible refine(xS _ _ f.o _).mono ?_);rintro e w' ⟨rfl,rfl⟩))
        exact Qo
       .go_wp2_with (first|(go_at_call 47;(with_reducible refine(jX _ _ r.o _).mono ?_);rintro e w' ⟨rfl,rfl⟩)|(go_at_call 49;(with_reducible refine(xS _ _ f.o _).mono ?_);rintro e w' ⟨rfl,rfl⟩))
        exact Qo
       .have F:Dk (xC (s.extract p (p+n)).data.toList=false):=aa.o rfl
        go_wp2_with (first|(go_at_call 47;(with_reducible refine(jX _ _ r.o _).mono ?_);rintro e w' ⟨rfl,rfl⟩)|(go_at_call 49;(with_reducible refine(xS _ _ f.o _).mono ?_);rintro e w' ⟨rfl,rfl⟩)|(go_at_call 50;(with_reducible refine(rR _ _ F.o _).mono ?_);rintro e w' ⟨rfl,rfl⟩))
        go_ret3
        exact DO v hb C.o m.o i.o _ (Zb.alloc Zr _)
       .have F:Dk (xC (s.extract p (p+n)).data.toList=true):=aa.o rfl
        go_wp2_with (first|(go_at_call 47;(with_reducible refine(jX _ _ r.o _).mono ?_);rintro e w' ⟨rfl,rfl⟩)|(go_at_call 49;(with_reducible refine(xS _ _ f.o _).mono ?_);rintro e w' ⟨rfl,rfl⟩)|(go_at_call 50;(with_reducible refine(rR _ _ F.o _).mono ?_);rintro e w' ⟨rfl,rfl⟩));exact Qo
       .go_wp2_with (first|(go_at_call 47;(with_reducible refine(jX _ _ r.o _).mono ?_);rintro e w' ⟨rfl,rfl⟩)|(go_at_call 49;(with_reducible refine(xS _ _ f.o _).mono ?_);rintro e w' ⟨rfl,rfl⟩))
        exact Qo
       .go_wp2_with (first|(go_at_call 47;(with_reducible refine(jX _ _ r.o _).mono ?_);rintro e w' ⟨rfl,rfl⟩)|(go_at_call 49;(with_reducible refine(xS _ _ f.o _).mono ?_);rintro e w' ⟨rfl,rfl⟩))
        exact Qo
      .obtain⟨t,az⟩:∃t:C2,(⟨(yL (s.extract p s.size).data.toList).toArray⟩:C2)=t:=⟨_,rfl⟩
       have aI:=U az;have aT:t.data.toList=yL (s.data.toList.drop p):=by rw[<-az,Lib.extract_to_end]
       have a3:n=0:=O
       subst a3;have aH:Dk (wI (s.data.toList.drop p)=if t.data.toList≠[]then some (2,t.data.toList)else none):=by unfold Dk;rw[HE ao.o,<-aT]
       clear az aT ab;by_cases aA:t.size=0
       .have ai:=yk t aA
        have a1:t.toList.isEmpty=true:=by rw[Yh,ai];rfl
        have bk:t.toList=[]:=by rw[Yh,ai]
        have i:Dk (wI (s.data.toList.drop p)=none):=by unfold Dk;rw[aH.o,ai];rfl
        clear ai aA;have aB:(c == 47)=false\/(c=47/\decide ((p:Int)+1<s.size)=false)\/(c=47/\∃d:Int,(d == 47)=false/\(p:Int)+1<s.size/\∀w,(Instr.index 9 (.string s) (.int .i64 ((p:Int)+1))).run Tryz.prog w=.ok (.int .u8 d) w):=HI s p c S;rcases aB with aP|⟨rfl,ay⟩|⟨rfl,d,a0,ay,aO⟩
        all_goals
         go_wp2_with (go_at_call 52;(with_reducible refine(HG _ _ aI.o _).mono ?_);rintro e L ⟨rfl,l⟩;have u:=U (Is.below (Dq a (.cells #[(0:Int),.string ⟨#[]⟩,(line:Int)] 57)) l Ur);have bb:L.cell? (a.heap.size,0)=some (.int .i64 0):=(u.o.cell 0).trans rfl;have bc:L.cell? (a.heap.size,1)=some (.string ⟨#[]⟩):=(u.o.cell 1).trans rfl;have aZ:=u.o.frozen 0;have f1:=u.o.frozen 1;have f:Dk (Cx a L):=(Zb.alloc Zr _).trans (l.mono Ur))
         go_ret3
         exact DO v hb C.o m.o i.o _ ((f.o.setCell (p:=(a.heap.size,0)) Zr _).setCell (p:=(a.heap.size,1)) Zr _)
       .have ax:=kC t O
        have a1:t.toList.isEmpty=false:=by rw[Yh];simpa using ax
        have i:Dk (wI (s.data.toList.drop p)=some (2,t.data.toList)):=by unfold Dk;rw[aH.o,Dm ax]
        clear ax aA;have aB:(c == 47)=false\/(c=47/\decide ((p:Int)+1<s.size)=false)\/(c=47/\∃d:Int,(d == 47)=false/\(p:Int)+1<s.size/\∀w,(Instr.index 9 (.string s) (.int .i64 ((p:Int)+1))).run Tryz.prog w=.ok (.int .u8 d) w):=HI s p c S;rcases aB with aP|⟨rfl,ay⟩|⟨rfl,d,a0,ay,aO⟩
        all_goals
         go_wp2_with (go_at_call 52;(with_reducible refine(HG _ _ aI.o _).mono ?_);rintro e L ⟨rfl,l⟩;have u:=U (Is.below (Dq a (.cells #[(0:Int),.string ⟨#[]⟩,(line:Int)] 57)) l Ur);have bb:L.cell? (a.heap.size,0)=some (.int .i64 0):=(u.o.cell 0).trans rfl;have bc:L.cell? (a.heap.size,1)=some (.string ⟨#[]⟩):=(u.o.cell 1).trans rfl;have aZ:=u.o.frozen 0;have f1:=u.o.frozen 1;have f:Dk (Cx a L):=(Zb.alloc Zr _).trans (l.mono Ur))
         go_meet
         exact⟨rfl,rfl,2,t,m.o,i.o,(u.o.set 0 _).set 1 _,(f.o.setCell (p:=(a.heap.size,0)) Zr _).setCell (p:=(a.heap.size,1)) Zr _⟩
    case rest=>
     obtain⟨rfl,rfl,k,x,aN,aj,af,ah⟩:=hcut;have m:=U aN;clear aN;have be:wc.cell? (a.heap.size,0)=some (.int .i64 k):=(af.cell 0).trans rfl;have bf:wc.cell? (a.heap.size,1)=some (.string x):=(af.cell 1).trans rfl;have bg:wc.cell? (a.heap.size,2)=some (.int .i64 line):=(af.cell 2).trans rfl
     have ba:x.size<=100000:=by
      have:=(m7 aj).2.2;rw[Yq,<-Ya,<-Ya]at this;omega
     have Q:Dk (0<x.size/\p+x.size<=s.size):=by
      have ad:=(m7 aj).2;rw[Yq,<-Ya,<-Ya]at ad;exact⟨ad.1,O⟩
     have i:=U aj;have H:=U (MF wc w.heap.size u5 ts k x line (G.o.below ah) (Dr hb.size ah.size));obtain⟨aC,V,X,Y,Z⟩:=info_parts EE;have A:=U (Do V (Do X (Do Y Z)));clear aj af V X Y Z;go_wp2_with (at_builtin;refine wpList_append_own _ rfl (.tmp 158) (.tmp 160) _ rfl w.heap.size 57 aC _ 3 32 underlying49 A.o.1 A.o.2.1 A.o.2.2.1 A.o.2.2.2 rfl O u5 ts.length (jT ts) rfl (by exact H.o.1) ⟨wc.heap.size,0,none⟩ 1 1 [.int .i64 k,.string x,.int .i64 line] rfl rfl (by exact H.o.2.1) Uw Uv O (by exact H.o.2.2) ?_;intro v1 bd W T _;have an:=U W;have am:=U T;clear W T);go_roundw
     case rel=>exact zac v hlp htl G.o hb C.o m.o k x i.o (ah.trans (Zb.alloc Zr _ |>.mono ah.size)) _ _ an.o am.o
     case measure=>
      have bn:=Q.o;simp only[intOf];omega
  .have aQ:p=s.size:=by omega
   have a9:decide ((p:Int)<s.size)=false:=Uq
   have H:=U (MF a w.heap.size u5 ts 3 ⟨#[]⟩ line G.o hb.size);obtain⟨aC,V,X,Y,Z⟩:=info_parts EE;have A:=U (Do V (Do X (Do Y Z)));have aW:=U aQ;clear V X Y Z aQ;go_wp2_with (at_builtin;refine wpList_append_own _ rfl (.tmp 162) (.tmp 165) _ rfl w.heap.size 57 aC _ 3 32 underlying49 A.o.1 A.o.2.1 A.o.2.2.1 A.o.2.2.2 rfl O u5 ts.length (jT ts) rfl (by exact H.o.1) ⟨a.heap.size,0,none⟩ 1 1 [.int .i64 3,.string ⟨#[]⟩,.int .i64 line] rfl rfl (by exact H.o.2.1) Uw Uv O (by exact H.o.2.2) ?_;intro v1 bd W T _;have an:=U W;have am:=U T;clear W T)
   go_ret3
   exact zab aW.o hb C.o G.o an.o am.o
def vO(R:Pr×Int×Nat)(w:C3)(e:Ending)(w':C3):Prop:=
 Cx w w'/\∃v0 v1,e=.returned (.tuple #[.agg #[v0,v1],(R.2.1:Int),((R.2.2:Int):Int)])/\eZ w'.heap.size (eE (i3 w.heap.size) w') v0 R.1.wa/\e0 w'.heap.size (eE (i3 w.heap.size) w') v1 R.1.funcs
theorem MG(B:Nat)(w:C3):e0 B w (.slice none 0 0) []:=⟨none,0,rfl,Dw _,fun h=>absurd h Ur⟩
theorem nA{p:Nat->Bool}:∀g o u,dZ B (eE p w) g o u->dZ B w g o u:=fun _ _ _ h=>(qS h).2
theorem BP.tree{a:Pr}(b:BP L w a v):∃v0 v1,v=.agg #[v0,v1]/\eZ w.heap.size w v0 a.wa/\e0 w.heap.size w v1 a.funcs:=by
 obtain⟨v0,v1,e,c,d⟩:=b;exact⟨v0,v1,e,c.imp nA,d.imp nA⟩
theorem QD{b C:Nat}(h:dX b B w w')(_:C<=B)(hb:C<=b):Below C w w':=by
 have g:Below B (eG b w) (eG b w'):=h;exact⟨g.os,g.tape,g.output,h.size,fun k _=>h.block O O⟩
theorem zad(k:ue w B v ts)(d:qB ts)(n:ts.length<=1000000)(e:∀t∈ts,t.kind=0->xQ t.text=true/\t.text.length<=281474976710656):
 jr w.heap.size v ts (.ok () ts) (w.alloc (.cells #[v,(0:Int),.bool false,.bool false] 54)):=by
 rcases k.2 with⟨rfl,a⟩|⟨g,i,_,rfl,_,c,_,_,_,l⟩
 .exact absurd a (by have:=d.pos;omega)
 .have m:g<w.heap.size:=(Array.getElem?_eq_some_iff.1 c).1
  refine⟨?_,⟨g,i,rfl,O,Uq,fun j _ b=>?_,n,fun t f a=>⟨(e t f a).1,?_⟩⟩,List.suffix_refl _,d⟩
  .rw[Yx]
   exact Dq w _
  .rw[Ds ((D3 w _ g m).trans c)]
   rw[<-l,Y5]at b;split at b
   .simpa using b
   .cases b
  .rw[Ya]
   exact(e t f a).2
def Rb(w W:C3):Prop:=Cx w W/\W.heap[w.heap.size]?=some eM
theorem Rb.start(w:C3):Rb w (w.alloc eM):=⟨Zb.alloc Zr _,Dq w eM⟩
section
variable {w W W':C3}
theorem Rb.lt(h:Rb w W):w.heap.size<W.heap.size:=(Array.getElem?_eq_some_iff.1 h.2).1
theorem Rb.below(h:Rb w W)(hb:Cx W W'):Rb w W':=⟨h.1.trans (hb.mono h.1.size),(hb.block _ h.lt).trans h.2⟩
theorem Rb.off{b B:Nat}(a:Rb w W)(c:dX b B W W')(d:w.heap.size<B)(hb:w.heap.size<b):Rb w W':=⟨a.1.trans (QD c O O),jM c d O a.2⟩
theorem Rb.alloc(h:Rb w W)(o:Obj):Rb w (W.alloc o):=h.below (Zb.alloc Zr o)
theorem Rb.drew(h:Rb w W):Rb w W.drew:=h.below Zb.drew
theorem Rb.own(h:Rb w W):(W.cell? (w.heap.size,0)=some (.slice none 0 0)/\W.cell? (w.heap.size,1)=some (.slice none 0 0))/\∀o,W.frozen? ⟨w.heap.size,o,none⟩=false:=xp h.2
theorem Rb.read(c:Rb w W)(a b:C4):((W.setCell (w.heap.size,0) a).setCell (w.heap.size,1) b).cell? (w.heap.size,0)=some a/\((W.setCell (w.heap.size,0) a).setCell (w.heap.size,1) b).cell? (w.heap.size,1)=some b:=(xp (BO c.2 a b)).1
theorem Rb.fail(a:Rb w W){R:Pr×Int×Nat}(e:Int)(ln:Nat)(b:R=(xT,e,ln)):vO R w (.returned (.tuple #[.agg #[.slice Option.none 0 0,.slice Option.none 0 0],(e:Int),((ln:Int):Int)])) W:=by
 subst b;exact⟨a.1,_,_,rfl,q2 _ _,MG _ _⟩
theorem Rb.nest(c:Rb w W)(a b:C4):Cx w (uZ W w.heap.size a b):=(c.1.setCell (p:=⟨w.heap.size,0,Option.none⟩) Zr _).setCell (p:=⟨w.heap.size,1,Option.none⟩) Zr _
theorem Rb.dg(c:Rb w W){R:Pr×Int×Nat}(e:Int)(ln:Nat)(d:R=(xT,e,ln))(a b:C4):vO R w (.returned (.tuple #[.agg #[.slice Option.none 0 0,.slice Option.none 0 0],(e:Int),((ln:Int):Int)])) (uZ W w.heap.size a b):=by
 subst d;exact⟨c.nest a b,_,_,rfl,q2 _ _,MG _ _⟩
theorem BP.keep{L b:Nat}{a:Pr}{v:C4}(d:BP L W a v)(k:zK L W W')(c:b<=L):BP b W' a v:=by
 obtain⟨v0,v1,g,e,f⟩:=d;exact⟨v0,v1,g,e.imp (k.cells c),f.imp (k.cells c)⟩
theorem Rb.give(c:Rb w W){R:Pr×Int×Nat}{p:Pr}{v0 v1:C4}(i:R=(p,0,0)){L:Nat}(f:BP L W p (.agg #[v0,v1]))(a:w.heap.size<L):vO R w (.returned (.tuple #[.agg #[v0,v1],(0:Int),(((0 :Nat):Int):Int)])) (uZ W w.heap.size v0 v1):=by
 subst i;obtain⟨u0,u1,b,d,e⟩:=f.keep (zK.nest2 (g:=w.heap.size) a v0 v1) (D5 a);simp only[Value.agg.injEq,Array.mk.injEq,Y7,and_true]at b;obtain⟨rfl,rfl⟩:=b;exact⟨c.nest _ _,_,_,rfl,d,e⟩
end
theorem HJ(s:C2)(w:C3)(a:100000<s.size):Cy 13 #[s] w (vO (yc s) w):=by
 rw[oF a];have c:=U a;have b:=U (Rb.start w);clear a;go_enter func13,ntmps13;go_wp2_with (go_at_call 26;(with_reducible refine(DN s _ c.o).mono ?_);rintro e _ ⟨rfl,rfl⟩);obtain⟨⟨d,f⟩,_⟩:=b.o.own;refine bodyPost_ret (v:=.tuple #[.agg #[(),()],(2:Int),(((0 :Nat):Int):Int)]) (by simp[results,results13,go_sem,d,f]) rfl ?_;exact b.o.fail 2 0 rfl
theorem KK(s:C2)(w:C3)(a:s.size<=100000)(b:(qE s.data.toList 1).2=some ln):Cy 26 #[s] w (Cv (.tuple #[(),(20:Int),((ln:Int):Int)]) w):=
 (pO s w a).mono fun e w' hp=>by
   unfold xj at hp;rw[b]at hp;exact⟨hp.2,hp.1⟩
theorem ua(s:C2)(w:C3)(a:s.size<=100000)(f:qE s.data.toList 1=(ts,none)):Cy 26 #[s] w fun e w'=>∃v,e=.returned (.tuple #[v,(0:Int),(0:Int)])/\ue w' w.heap.size v ts/\Cx w w':=
 (pO s w a).mono fun e w' hp=>by
   unfold xj at hp;rw[f]at hp;obtain⟨b,v,c,d⟩:=hp;exact⟨v,c,d,b⟩
theorem QE(s:C2)(w:C3)(b:s.size<=100000)(c:(qE s.data.toList 1).2=some ln):Cy 13 #[s] w (vO (yc s) w):=by
 rw[DC b c];have d:=U b;have f:=U c;have a:=U (Rb.start w);clear b c;go_enter func13,ntmps13
 go_wp2_with (go_at_call 26;(with_reducible refine(KK s _ d.o f.o).mono ?_);rintro e _ ⟨rfl,hb⟩
              replace a:=U (a.o.below hb);obtain⟨⟨g,i⟩,_⟩:=a.o.own
              clear hb)
 refine bodyPost_ret (v:=.tuple #[.agg #[(),()],(20:Int),((ln:Int):Int)]) (by simp[results,results13,go_sem,g,i]) rfl ?_;exact a.o.dg 20 ln rfl _ _
theorem DP{W:C3}(e:ue W B v ts)(c:qE s.data.toList 1=(ts,none))(_:s.size<=100000):jr W.heap.size v ts (.ok () ts) (W.alloc (.cells #[v,(0:Int),.bool false,.bool false] 54)):=by
 have f:s.size=s.data.toList.length:=rfl;obtain⟨b,_⟩:=e9 _ _ _ _ Zr c;exact zad e (kU _ _ _ _ Zr c) O fun t d a=>⟨(b t d a).1,by have:=(b t d a).2;omega⟩
theorem iQ(h:ue w B v ts):∃A c,v=.slice A ts.length c:=zb h
theorem HK{W:C3}{p:Pr}{c:Bool}{o:Obj}(b:BP L W p (.agg #[v0,v1]))(g:eK p=c):Cy 28 #[.agg #[v0,v1]] (W.alloc o) fun e w'=>e=.returned (.bool c)/\Below (W.alloc o).heap.size (W.alloc o) w':=by
 obtain⟨u0,u1,a,d,f⟩:=(b.keep (zK.wb (L:=L) (Zb.alloc Zr o)) Zr).tree;simp only[Value.agg.injEq,Array.mk.injEq,Y7,and_true]at a;obtain⟨rfl,rfl⟩:=a;exact fX _ p c g _ _ _ Zr d f
theorem QF(s:C2)(w:C3)(H:s.size<=100000)(F:qE s.data.toList 1=(ts,none)){p:Pr}(hp:kg ts=.ok p r):Cy 13 #[s] w (vO (yc s) w):=by
 obtain⟨c,I⟩:=Cz (eK p)
 have Q:yc s=if c=true then(p,0,0)else(xT,2,0):=by
  rw[hI H F];unfold JV;rw[hp,<-I]
 have K:=C0 (zH ((PR.ok () ts).bind fun _ r=>i1 (20*ts.length+40) ⟨[],[]⟩ r)) (ym (kU _ _ _ _ Zr F));have D:=U hp;have J:=U I;have C:=U H;have E:=U F;have f:=U (Rb.start w);have M:=U Q;clear H F hp I Q;cases c
 case false=>
  go_enter func13,ntmps13
  go_wp2_with (first
   | (go_at_call 26;(with_reducible refine(ua s _ C.o E.o).mono ?_);rintro e d ⟨v,rfl,l,hb⟩
      obtain⟨g,j,rfl⟩:=iQ l;have G:=U l;replace f:=U (f.o.below hb)
      clear hb l)
   | (go_at_call 27;(with_reducible refine(m5 (DP G.o E.o C.o) K.o).mono ?_);rintro e b ⟨v,rfl,k,z⟩
      have m:zc d.heap.size (.slice g ts.length j) ts r false false b:=by
       exact Qr
      have i:=U (show BP (d.alloc (.cells #[(g,ts.length,j),(0:Int),.bool false,.bool false] 54)).heap.size b p v by
       have a:je (kg ts) _:=z;rw[D.o]at a
       exact a)
      obtain⟨v0,v1,rfl,x,y⟩:=i.o;obtain⟨q,A,rfl,_⟩:=x.form;obtain⟨t,B,rfl,_⟩:=y.form;obtain⟨R,S,T,V⟩:=m.cells;have Z:=f.o.lt;have u:=U ((f.o.alloc _).off k.off Uq O);have Y:d.heap.size<b.heap.size:=m.lt;have aa:=u.o.lt
      clear k z m x y)
   | (go_at_call 28;(with_reducible refine(HK i.o J.o).mono ?_);rintro e af ⟨rfl,hb⟩
      have L:=U (i.o.keep ((zK.wb (Zb.alloc Zr _)).trans (zK.wb hb)) Zr);have n:=U ((u.o.alloc _).below hb);obtain⟨⟨ab,ad⟩,ae⟩:=xp ((hb.block _ Ur).trans (Dq b (.cells #[(q,p.wa.length,A),(t,p.funcs.length,B)] 27)));obtain⟨⟨N,P⟩,X⟩:=n.o.own
      clear hb))
  refine bodyPost_ret (v:=.tuple #[.agg #[(),()],(2:Int),(((0 :Nat):Int):Int)]) (by simp[results,results13,go_sem,N,P]) rfl ?_;exact n.o.dg 2 0 (by rw[M.o];rfl) _ _
 case true=>
  go_enter func13,ntmps13
  go_wp2_with (first
   | (go_at_call 26;(with_reducible refine(ua s _ C.o E.o).mono ?_);rintro e d ⟨v,rfl,l,hb⟩
      obtain⟨g,j,rfl⟩:=iQ l;have G:=U l;replace f:=U (f.o.below hb)
      clear hb l)
   | (go_at_call 27;(with_reducible refine(m5 (DP G.o E.o C.o) K.o).mono ?_);rintro e b ⟨v,rfl,k,z⟩
      have m:zc d.heap.size (.slice g ts.length j) ts r false false b:=by
       exact Qr
      have i:=U (show BP (d.alloc (.cells #[(g,ts.length,j),(0:Int),.bool false,.bool false] 54)).heap.size b p v by
       have a:je (kg ts) _:=z;rw[D.o]at a
       exact a)
      obtain⟨v0,v1,rfl,x,y⟩:=i.o;obtain⟨q,A,rfl,_⟩:=x.form;obtain⟨t,B,rfl,_⟩:=y.form;obtain⟨R,S,T,V⟩:=m.cells;have Z:=f.o.lt;have u:=U ((f.o.alloc _).off k.off Uq O);have Y:d.heap.size<b.heap.size:=m.lt;have aa:=u.o.lt
      clear k z m x y)
   | (go_at_call 28;(with_reducible refine(HK i.o J.o).mono ?_);rintro e af ⟨rfl,hb⟩
      have L:=U (i.o.keep ((zK.wb (Zb.alloc Zr _)).trans (zK.wb hb)) Zr);have n:=U ((u.o.alloc _).below hb);obtain⟨⟨ab,ad⟩,ae⟩:=xp ((hb.block _ Ur).trans (Dq b (.cells #[(q,p.wa.length,A),(t,p.funcs.length,B)] 27)));obtain⟨⟨N,P⟩,X⟩:=n.o.own
      clear hb))
  obtain⟨W,f1⟩:=n.o.read (.slice q p.wa.length A) (.slice t p.funcs.length B);refine bodyPost_ret (v:=.tuple #[.agg #[(q,p.wa.length,A),(t,p.funcs.length,B)],(0:Int),(((0 :Nat):Int):Int)]) (by simp[results,results13,go_sem,W,f1]) rfl ?_;exact n.o.give (by rw[M.o];rfl) L.o Uq
theorem KL(s:C2)(w:C3)(z:s.size<=100000)(m:qE s.data.toList 1=(ts,none))(hp:kg ts=.bad r):Cy 13 #[s] w (vO (yc s) w):=by
 have K:yc s=(xT,20,XJ r):=by
  rw[hI z m];unfold JV;rw[hp]
 have N:=C0 (zH ((PR.ok () ts).bind fun _ r=>i1 (20*ts.length+40) ⟨[],[]⟩ r)) (ym (kU _ _ _ _ Zr m));have F:=U hp;have E:=U z;have G:=U m;have f:=U (Rb.start w);have Q:=U K;clear z m hp K;go_enter func13,ntmps13
 go_wp2_with (first
  | (go_at_call 26;(with_reducible refine(ua s _ E.o G.o).mono ?_);rintro e b ⟨v,rfl,B,hb⟩
     obtain⟨n,y,rfl⟩:=iQ B;have x:=U B;replace f:=U (f.o.below hb)
     clear hb B)
  | (go_at_call 27;(with_reducible refine(m5 (DP x.o G.o E.o) N.o).mono ?_);rintro e c ⟨v,rfl,A,J⟩
     have l:zc b.heap.size (.slice n ts.length y) ts r true false c:=by
      exact Qs
     have V:∃a,BP (b.alloc (.cells #[(n,ts.length,y),(0:Int),.bool false,.bool false] 54)).heap.size c a v:=by
      have d:je (kg ts) _:=J;rw[F.o]at d;exact d
     obtain⟨a,v0,v1,rfl,H,I⟩:=V;obtain⟨p,C,rfl,_⟩:=H.form;obtain⟨u,D,rfl,_⟩:=I.form;obtain⟨g,_,k,t,q,W,L,ad,_,_,_,R,_,_,_,_,M⟩:=l.tok;injection W with X _ Y;subst X Y
     have Z:g≠b.heap.size/\g<c.heap.size/\g≠w.heap.size:=by
      exact Qp
     obtain⟨_,aa,ab⟩:=Z;have af:w.heap.size≠g:=fun e=>ab e.symm
     have P:=U (show(t.line:Int)=(XJ r:Int)by rw[L];rfl);have ai:=f.o.lt;have i:=U (((f.o.alloc _).off A.off Uq O).alloc (.cells #[(p,a.wa.length,C),(u,a.funcs.length,D)] 27));obtain⟨⟨_,_⟩,_⟩:=i.o.own;have T:b.heap.size<c.heap.size:=l.lt;have ag:(k:Int)<ts.length:=O
     have aj:=i.o.lt;have ah:w.heap.size≠b.heap.size:=O
     clear A J l H I L ad))
 have ak:(c.alloc (.cells #[(p,a.wa.length,C),(u,a.funcs.length,D)] 27)).cell? (b.heap.size,1)=some (.int .i64 (k:Int)):=Hj
 have al:(c.alloc (.cells #[(p,a.wa.length,C),(u,a.funcs.length,D)] 27)).cell? (g,k*3+2)=some (.int .i64 (t.line:Int)):=Hi
 go_region_held3 (fun w'=>w'.cell? (b.heap.size,1)=some (.int .i64 (k:Int))/\w'.cell? (g,k*3+2)=some (.int .i64 (t.line:Int)))
  (go_keep)
  (fail)
 all_goals
  go_wp2_with fail;obtain⟨S,f1⟩:=i.o.read (.slice none 0 0) (.slice none 0 0);refine bodyPost_ret (v:=.tuple #[.agg #[(),()],(20:Int),(((XJ r:Nat):Int):Int)]) (by rw[<-P.o];simp[results,results13,go_sem,S,f1]) rfl ?_;exact i.o.drew.dg 20 (XJ r) Q.o _ _
theorem HL(s:C2)(w:C3)(z:s.size<=100000)(m:qE s.data.toList 1=(ts,none))(hp:kg ts=.deep r):Cy 13 #[s] w (vO (yc s) w):=by
 have K:yc s=(xT,2,XJ r):=by
  rw[hI z m];unfold JV;rw[hp]
 have N:=C0 (zH ((PR.ok () ts).bind fun _ r=>i1 (20*ts.length+40) ⟨[],[]⟩ r)) (ym (kU _ _ _ _ Zr m));have F:=U hp;have E:=U z;have G:=U m;have f:=U (Rb.start w);have Q:=U K;clear z m hp K;go_enter func13,ntmps13
 go_wp2_with (first
  | (go_at_call 26;(with_reducible refine(ua s _ E.o G.o).mono ?_);rintro e b ⟨v,rfl,B,hb⟩
     obtain⟨n,y,rfl⟩:=iQ B;have x:=U B;replace f:=U (f.o.below hb)
     clear hb B)
  | (go_at_call 27;(with_reducible refine(m5 (DP x.o G.o E.o) N.o).mono ?_);rintro e c ⟨v,rfl,A,J⟩
     have l:zc b.heap.size (.slice n ts.length y) ts r false true c:=by
      exact Qs
     have V:∃a,BP (b.alloc (.cells #[(n,ts.length,y),(0:Int),.bool false,.bool false] 54)).heap.size c a v:=by
      have d:je (kg ts) _:=J;rw[F.o]at d;exact d
     obtain⟨a,v0,v1,rfl,H,I⟩:=V;obtain⟨p,C,rfl,_⟩:=H.form;obtain⟨u,D,rfl,_⟩:=I.form;obtain⟨g,_,k,t,q,W,L,ad,_,_,_,R,_,_,_,_,M⟩:=l.tok;injection W with X _ Y;subst X Y
     have Z:g≠b.heap.size/\g<c.heap.size/\g≠w.heap.size:=by
      exact Qp
     obtain⟨_,aa,ab⟩:=Z;have af:w.heap.size≠g:=fun e=>ab e.symm
     have P:=U (show(t.line:Int)=(XJ r:Int)by rw[L];rfl);have ai:=f.o.lt;have i:=U (((f.o.alloc _).off A.off Uq O).alloc (.cells #[(p,a.wa.length,C),(u,a.funcs.length,D)] 27));obtain⟨⟨_,_⟩,_⟩:=i.o.own;have T:b.heap.size<c.heap.size:=l.lt;have ag:(k:Int)<ts.length:=O
     have aj:=i.o.lt;have ah:w.heap.size≠b.heap.size:=O
     clear A J l H I L ad))
 have ak:(c.alloc (.cells #[(p,a.wa.length,C),(u,a.funcs.length,D)] 27)).cell? (b.heap.size,1)=some (.int .i64 (k:Int)):=Hj
 have al:(c.alloc (.cells #[(p,a.wa.length,C),(u,a.funcs.length,D)] 27)).cell? (g,k*3+2)=some (.int .i64 (t.line:Int)):=Hi
 go_region_held3 (fun w'=>w'.cell? (b.heap.size,1)=some (.int .i64 (k:Int))/\w'.cell? (g,k*3+2)=some (.int .i64 (t.line:Int)))
  (go_keep)
  (fail)
 all_goals
  go_wp2_with fail;obtain⟨S,f1⟩:=i.o.read (.slice none 0 0) (.slice none 0 0);refine bodyPost_ret (v:=.tuple #[.agg #[(),()],(2:Int),(((XJ r:Nat):Int):Int)]) (by rw[<-P.o];simp[results,results13,go_sem,S,f1]) rfl ?_;exact i.o.drew.dg 2 (XJ r) Q.o _ _
theorem v7(s:C2)(w:C3):Cy 13 #[s] w (vO (yc s) w):=by
 by_cases c:100000<s.size
 .exact HJ s w c
 .cases hs:(qE s.data.toList 1).2 with
  |some ln=>exact QE s w O hs
  |none=>
    have a:=oG hs;cases hp:kg (qE s.data.toList 1).1 with
    |ok p r=>exact QF s w O a hp
    |bad r=>exact KL s w O a hp
    |deep r=>exact HL s w O a hp
    |o=>
      have b:=ym (kU _ _ _ _ Zr a);rw[hp]at b;exact absurd b id
structure eT (B:Nat) (p:Pr) (v0 v1:C4) (w:C3):Prop where
 hB:B<=w.heap.size
 tab:d6 B w
 ha:eZ B w v0 p.wa
 hf:e0 B w v1 p.funcs
theorem eT.below{p:Pr}(h:eT B p v0 v1 w)(hb:Cx w w'):eT B p v0 v1 w':=⟨Dr h.hB hb.size,h.tab.below (hb.mono h.hB),h.ha.below (hb.mono h.hB) Zr,h.hf.below (hb.mono h.hB) Zr⟩
theorem eT.mono{a:Nat}{p:Pr}(b:eT B p v0 v1 w)(c:B<=a)(d:a<=w.heap.size):eT a p v0 v1 w:=⟨d,b.tab.mono c,b.ha.below Zb c,b.hf.below Zb c⟩
theorem HM{p:Pr}(c:BP L w p (.agg #[v0,v1])):eZ w.heap.size w v0 p.wa/\e0 w.heap.size w v1 p.funcs:=by
 obtain⟨u0,u1,b,d,e⟩:=c;simp only[Value.agg.injEq,Array.mk.injEq,Y7,and_true]at b;obtain⟨rfl,rfl⟩:=b;exact⟨eZ.imp (fun _ _ _ a=>(qS a).2) d,e0.imp (fun _ _ _ a=>(qS a).2) e⟩
def zec(p:Pr)(e:Int)(ln:Nat)(w:C3)(x:Ending)(w':C3):Prop:=
 ∃a c b d,x=.returned (.tuple #[.agg #[.slice a p.wa.length c,.slice b p.funcs.length d],(e:Int),((ln:Int):Int)])/\Cx w w'/\eT w'.heap.size p (.slice a p.wa.length c) (.slice b p.funcs.length d) w'
theorem v8(s:C2)(l:d6 B w)(c:B<=w.heap.size){p:Pr}{e:Int}(k:yc s=(p,e,ln)):Cy 13 #[s] w (zec p e ln w):=
 (v7 s w).mono fun x w' ⟨hb,v0,v1,d,a,b⟩=>by
   rw[k]at d a b;replace a:=eZ.imp nA a;replace b:=e0.imp nA b;obtain⟨f,i,rfl,_⟩:=a.form;obtain⟨g,j,rfl,_⟩:=b.form;exact⟨f,i,g,j,d,hb,Dy _,(l.below (hb.mono c)).mono (Dr c hb.size),a,b⟩
theorem VY:e4 xT:=⟨by kernel_rfl,⟨fun a c=>Kf,fun f b=>Vo⟩,Dw _,Dw _,fun f b=>Vo,fun f b=>Vo⟩
theorem zdc(c:d6 B w)(b:B<=w.heap.size):eT B xT (.slice none 0 0) (.slice none 0 0) w:=⟨b,c,q2 _ _,⟨none,0,rfl,Dw _,fun a=>absurd a (by simp[xT])⟩⟩
theorem iR{p:Pr}(a:yc s=(p,k,ln)):e4 p:=by
 by_cases b:k=0
 .subst b;exact O9 a
 .rw[O8 a b];exact VY
theorem eT.box{q:Pr}{a b:Option Addr}{e c n1 d:Nat}(f:eT w.heap.size q (.slice a e c) (.slice b n1 d) w):Cx w (w.alloc (qW a e c b n1 d))/\(w.alloc (qW a e c b n1 d)).heap[w.heap.size]?=some (qW a e c b n1 d)/\(w.alloc (qW a e c b n1 d)).heap.size=w.heap.size+1/\eT w.heap.size q (.slice a e c) (.slice b n1 d) (w.alloc (qW a e c b n1 d)):=by
 have hb:Cx w (w.alloc (qW a e c b n1 d)):=Zb.alloc Zr _;exact⟨hb,Dq w _,zA _ _,f.below hb⟩
end Go.Proofs.YthcmenajdcbnnaaGreatDoor
namespace Go.Proofs.YthcmenajdcbnnaaGreatDoor
open Go.RowKit Tryz Go.Maps
variable{l t:List UInt8}{w w':C3}{B p n L ln:Nat}{v v1 v0:C4}{ts r:List dY}{k:Int}{s:C2}
def VZ(c:Option Int)(t:RS):Int:=match c with
 |some _=>1
 |none=>t.stat
def V0(c:Option Int):Int:=match c with
 |some n=>n
 |none=>0
theorem KM{r:eD uK}:KC r=(VZ (x2 r).1 (x2 r).2,V0 (x2 r).1,(x2 r).2.o,(x2 r).2.cost,(x2 r).2.fuel):=by
 cases r with
 |ok _ s=>rfl
 |fin s=>rfl
theorem zb4(c:Option Int)(t:RS):enV c t=.agg #[(VZ c t:Int),(V0 c:Int)]:=by cases c<;>rfl
theorem V1(B:Nat)(p:Pr)(b:List Int)(q:Int)(v0 v1 aZ:C4)(w:C3)(bj:eT B p v0 v1 w)(aV:e4 p)(aN:∀f∈p.funcs,d0 f.body 0<=1000000000)(Y:lQ B w aZ b)(aK:eJ b)(_:q<=1000000)(_: -9223372036854775808<=q):
 Cy 17 #[.agg #[v0,v1],aZ,(q:Int)] w fun e w'=>∃ak,e=.returned (zc9 ak (vE p b q))/\zbz w.heap.size w' ak (vE p b q)/\Cx w w':=by
 obtain⟨E,aW,S,W⟩:=bj;obtain⟨c,i,rfl,_⟩:=S.form;obtain⟨d,j,rfl,_⟩:=W.form;obtain⟨a3,bi,rfl,_⟩:=Y.1.form;obtain⟨⟨L,m,n⟩,aD⟩:=Cz (xy p);have aY:Cx w ((w.alloc (qW c p.wa.length i d p.funcs.length j)).alloc (L8 0 0 (.slice none 0 0) 0 0)):=(Zb.alloc Zr _).alloc Ut _;have ae:((w.alloc (qW c p.wa.length i d p.funcs.length j)).alloc (L8 0 0 (.slice none 0 0) 0 0)).heap.size=w.heap.size+2:=by rw[zA,zA]
 have ad:((w.alloc (qW c p.wa.length i d p.funcs.length j)).alloc (L8 0 0 (.slice none 0 0) 0 0)).heap[w.heap.size]?=some (qW c p.wa.length i d p.funcs.length j):=qI (Dq w _) _;have aU:((w.alloc (qW c p.wa.length i d p.funcs.length j)).alloc (L8 0 0 (.slice none 0 0) 0 0)).heap[w.heap.size+1]?=some (L8 0 0 (.slice none 0 0) 0 0):=by have:=Dq (w.alloc (qW c p.wa.length i d p.funcs.length j)) (L8 0 0 (.slice none 0 0) 0 0);rw[zA]at this;exact this
 have az:=U aW;have am:=U S;have aq:=U W;have K:=U aV;have J:=U aD;have av:=U Y;have a6:=U aK;have a7:=U aN;clear aW S W aV aD Y aK aN;go_enter func17,ntmps17;go_upto_region 1 with fail;generalize(w.alloc (.cells #[(c,p.wa.length,i),(d,p.funcs.length,j)] 27)).alloc (.cells #[(0:Int),(0:Int),(),(0:Int),(0:Int)] 35)=WA at *;have bH:=Dt ae;have bI:=Dt ae.symm;clear ae;obtain⟨⟨bf,bg⟩,bh⟩:=zD ad;have bF:w.heap.size<WA.heap.size:=O
 have z:=U aY;have be:=U ad;have ay:=U aU;clear aY ad aU;have ap:=U (OW B p (L,m,n) (.slice c p.wa.length i) (.slice d p.funcs.length j) WA (az.o.below (z.o.mono E)) O (am.o.below (z.o.mono E) Zr) (aq.o.below (z.o.mono E) Zr) K.o.sz K.o.n1 K.o.n2 J.o);by_cases P:L=0
 case neg=>
  have bz:(L != 0)=true:=by simpa using P
  have r:(xy p).1≠0:=by rw[J.o];exact P
  go_upto_region 2 with(go_at_call 31;(with_reducible refine(ap.o).mono ?_);rintro e al ⟨rfl,a⟩
                        have D:=U (z.o.trans ((a.alloc Xh (.cells #[((m:Int):Int),(eH n:Int)] 62)).mono O));have u:=U (qI ((a.block (w.heap.size+1) O).trans ay.o) (.cells #[((m:Int):Int),(eH n:Int)] 62))
                        clear a)
  generalize al.alloc (.cells #[((m:Int):Int),(eH n:Int)] 62)=W1 at *;obtain⟨⟨bq,br,bs,bt,bu⟩,bv⟩:=zn u.o;have aM:w.heap.size+1<W1.heap.size:=zB u.o;go_wp2_with fail;have R:=G8 u.o (.int .i64 0) (.int .i64 0) (.slice none 0 0) (.int .i64 0) (.int .i64 0);have Q:=t5 (g:=w.heap.size+1) (show Cx w W1 from D.o) O (.int .i64 0) (.int .i64 0) (.slice none 0 0) (.int .i64 0) (.int .i64 0);obtain⟨⟨af,ag,ah,ai,aj⟩,_⟩:=zn R;refine bodyPost_ret (v:=.agg #[(0:Int),(0:Int),(),(0:Int),(0:Int)]) (by simp[results,results17,go_sem,af,ag,ah,ai,aj]) rfl ?_;rw[PZ r];exact⟨_,rfl,⟨Ym _ _ _ _,Dw _⟩,Q⟩
 case pos=>
  subst P;have r:(xy p).1=0:=by rw[J.o]
  obtain⟨aT,bl,N,G,X⟩:=m4 r;obtain⟨F,hF⟩:∃F:Nat,q.toNat=F:=⟨_,rfl⟩
  have bx:max q 0=(F:Int):=by rw[<-hF];omega
  have aC:F<=1000000:=O
  have I:=lJ r G b q;rw[hF,KM]at I;have aa:=zby r G X b aC;have au:=U (zbx r a7.o);have ar:=U (Do G (show N.params.length=0 by rw[X];rfl));have ba:=U aT;obtain⟨M,aI⟩:∃x,x=(x2 (j9 (kM p F) [] N.body (vH p b F))).1:=⟨_,rfl⟩
  obtain⟨t,aX⟩:∃x,x=(x2 (j9 (kM p F) [] N.body (vH p b F))).2:=⟨_,rfl⟩
  rw[<-aI,<-aX]at I aa;have aJ:=zb4 M t;generalize VZ M t=st at *;generalize V0 M=tn at *;have bc:=U I;have bd:=U aa;have a5:=U aJ;clear I aa aJ;clear r aT bl G X aI aX hF
  go_upto_region 4 with(go_at_call 31;(with_reducible refine(ap.o).mono ?_);rintro e al ⟨rfl,a⟩
                        have D:=U (z.o.trans ((a.alloc Xh (.cells #[((m:Int):Int),(eH n:Int)] 62)).mono O));have u:=U (qI ((a.block (w.heap.size+1) O).trans ay.o) (.cells #[((m:Int):Int),(eH n:Int)] 62));have aA:=U (qI ((a.block w.heap.size O).trans be.o) (.cells #[((m:Int):Int),(eH n:Int)] 62))
                        clear a)
  generalize al.alloc (.cells #[((m:Int):Int),(eH n:Int)] 62)=W1 at *;clear bf bg bh;obtain⟨⟨a0,a1⟩,a2⟩:=zD aA.o;have bw:w.heap.size<W1.heap.size:=zB aA.o;have aM:w.heap.size+1<W1.heap.size:=zB u.o;have A:=D.o.mono E;have a9:=U (VA p (.slice c p.wa.length i) (.slice d p.funcs.length j) (.slice a3 b.length bi) b F W1 (am.o.below A O) (aq.o.below A O) (av.o.below A O) au.o)
  go_upto_region 5 with(go_at_call 32;(with_reducible refine(a9.o).mono ?_);rintro e _ ⟨rfl,_,_,_,bp,aP,aO,rfl⟩
                        have Z:=VF rfl aP aO au.o ((az.o.below A).mono O) ba.o (av.o.below A O) a6.o aC;have ao:=U Z.2;have a4:=U (U7 Z.1 rfl ar.o.1 ar.o.2 O bd.o)
                        clear aP aO Z)
  generalize bp.setCell (W1.heap.size+1+1+1,9) ((F:Int):Int)=W2 at *;clear a0 a1 a2
  go_upto_region 6 with(go_at_call 33;(with_reducible refine(a4.o).mono ?_);rintro e l ⟨rfl,⟨_,_,_,ak,V,ab,aQ,aR⟩,T⟩
                        rw[a5.o];obtain⟨s,y,rfl⟩:=zb ab;have aE:Cx W1 (l.alloc (.cells #[(st:Int),(tn:Int)] 68)):=(ao.o.trans T).alloc (by have:=(ao.o.trans T).size;omega) _;have an:=U aE;have a8:=U (Dq l (.cells #[(st:Int),(tn:Int)] 68));have aB:=U (qI V (.cells #[(st:Int),(tn:Int)] 68));have ax:=U (qD ab ((D1 l.heap.size l).alloc Zr (.cells #[(st:Int),(tn:Int)] 68)) Zr);have bG:(l.alloc (.cells #[(st:Int),(tn:Int)] 68)).heap.size=l.heap.size+1:=zA _ _;have aF:=zB V;have aw:=U (Do aQ aR)
                        clear V ab T aE aQ aR)
  generalize l.alloc (.cells #[(st:Int),(tn:Int)] 68)=W4 at *;obtain⟨⟨a0,a1⟩,a2⟩:=zD a8.o;obtain⟨⟨_,_,_,_,_,_,_,_,_,_⟩,_⟩:=zJ aB.o;have H:=(an.o.block (w.heap.size+1) aM).trans u.o;obtain⟨⟨bq,br,bs,bt,bu⟩,bv⟩:=zn H;have bA:l.heap.size<W4.heap.size:=O
  have bC:W1.heap.size+1+1+1<W4.heap.size:=by show _<_;have aF:W1.heap.size+1+1+1<l.heap.size:=aF;omega
  have bD:w.heap.size+1<W4.heap.size:=zB H;have bb:=U H;clear H;go_wp2_with fail
  go_region
  all_goals
   go_wp2_with fail
  have aH:W1.heap.size+1+1+1≠w.heap.size+1:=O
  have aG:w.heap.size<=W1.heap.size+1+1+1:=O
  have bn:(Value.slice s t.o.length y).ownBlock≠some (W1.heap.size+1+1+1):=nH ax.o (show Is W4 (W1.heap.size+1+1+1) 74 _ from aB.o) Up
  have bo:((W4.setCell (W1.heap.size+1+1+1,5) (st:Int)).setCell (W1.heap.size+1+1+1,6) (tn:Int)).heap[w.heap.size+1]?=some (L8 0 0 (.slice none 0 0) 0 0):=
   (Dx _ ⟨W1.heap.size+1+1+1,6,none⟩ _ _ aH.symm).trans ((Dx _ ⟨W1.heap.size+1+1+1,5,none⟩ _ _ aH.symm).trans bb.o)
  have bm:Cx w ((W4.setCell (W1.heap.size+1+1+1,5) (st:Int)).setCell (W1.heap.size+1+1+1,6) (tn:Int)):=
   ((D.o.trans (an.o.mono O)).setCell (p:=(W1.heap.size+1+1+1,5)) aG _).setCell (p:=(W1.heap.size+1+1+1,6)) aG _
  have aS:((W4.setCell (W1.heap.size+1+1+1,5) (st:Int)).setCell (W1.heap.size+1+1+1,6) (tn:Int)).ownsRow W1.heap.size 3 1 (.slice s t.o.length y) t.o.length (t.o.map (Value.int .i64)):=
   zZ ax.o fun k C=>by
    have aL:k≠W1.heap.size+1+1+1:=fun e=>bn (e▸C)
    exact(Dx _ ⟨W1.heap.size+1+1+1,6,none⟩ _ k aL).trans (Dx _ ⟨W1.heap.size+1+1+1,5,none⟩ _ k aL)
  generalize(W4.setCell (W1.heap.size+1+1+1,5) (st:Int)).setCell (W1.heap.size+1+1+1,6) (tn:Int)=W7 at *;have R:=G8 bo (.int .i64 st) (.int .i64 tn) (.slice s t.o.length y) (.int .i64 (t.cost:Int)) (.int .i64 (t.fuel:Int));have Q:=t5 (g:=w.heap.size+1) bm O (.int .i64 st) (.int .i64 tn) (.slice s t.o.length y) (.int .i64 (t.cost:Int)) (.int .i64 (t.fuel:Int));have bk:=fun k (C:k≠w.heap.size+1)=>KD W7 C (.int .i64 st) (.int .i64 tn) (.slice s t.o.length y) (.int .i64 (t.cost:Int)) (.int .i64 (t.fuel:Int))
  obtain⟨⟨af,ag,ah,ai,aj⟩,_⟩:=zn R;refine bodyPost_ret (v:=.agg #[(st:Int),(tn:Int),(s,t.o.length,y),((t.cost:Int):Int),((t.fuel:Int):Int)]) (by simp[results,results17,go_sem,af,ag,ah,ai,aj]) rfl ?_;rw[bc.o];exact⟨_,rfl,⟨(zZ aS fun k C=>bk k (by have:=(zo aS k C).2;omega)).mono O,(by show t.o.length<=_;have:=aw.o.1;have:=aw.o.2;omega)⟩,Q.drew⟩
theorem hM(B:Nat)(p:Pr)(b:List Int)(a:Int)(v0 v1 c:C4)(w:C3)(j:eT B p v0 v1 w)(d:e4 p)(l:lQ B w c b)(m:eJ b)(k:a<=1000000)(n: -9223372036854775808<=a):
 Cy 17 #[.agg #[v0,v1],c,(a:Int)] w fun e w'=>∃v,e=.returned v/\JX w'.heap.size w' v (vE p b a)/\Cx w w':=
 (V1 B p b a v0 v1 c w j d d.ln l m k n).mono fun e w' ⟨_,f,g,i⟩=>⟨_,f,g.run,i⟩
