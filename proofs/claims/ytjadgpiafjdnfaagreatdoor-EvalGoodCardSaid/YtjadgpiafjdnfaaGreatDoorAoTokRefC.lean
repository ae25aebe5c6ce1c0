import Derived.Test.YtjadgpiafjdnfaaGreatDoorAoParPg
import Derived.Lib.IndexBytes
set_option linter.unusedSimpArgs false
set_option linter.unusedVariables false
set_option maxRecDepth 100000
set_option maxHeartbeats 99000000
namespace Go.Proofs.YtjadgpiafjdnfaaGreatDoor
open Go.RowKit Tryz
theorem Qx{p:Prop}(h:p:=by
 go_meet
 exact⟨rfl,rfl,_,_,m.o,i.o,Ds a _,Zb.alloc Zr _⟩):p:=h
theorem Qy{p:Prop}(h:p:=by
 refine⟨?_,World.block_lt_of_cell? c ⟨g,k*3+2,none⟩ M,?_⟩
 .obtain⟨_,⟨_,_,ae,_,_⟩,_⟩:=l
  injection ae with j _ _;injection j with j;injection j with j _ _;omega
 .obtain⟨_,_⟩:=x.o
  have d:=(zU x.o g rfl).2;simp at d
  omega):p:=h
theorem Qz{p:Prop}(h:p:=by
 obtain⟨a,b,rfl,_⟩:=c.form
 exact⟨a,b,by rw[i,d];rfl,c,hb⟩):p:=h
theorem Ua{p:Prop}(h:p:=by
 have a:jm d.heap.size (.slice g ts.length j) ts (kX ts).un b:=k.st;rw[D.o]at a
 exact a):p:=h
theorem Ub{p:Prop}(h:p:=by
 have d:jm b.heap.size (.slice n ts.length y) ts (kX ts).un c:=A.st;rw[F.o]at d
 exact d):p:=h
theorem Uc{p:Prop}(h:p:=by
 have:=(List.getElem?_eq_some_iff.1 hb).1;rw[Ys,<-Yf]at this
 omega):p:=h
variable{s:C6}{p n B L ln:Nat}{r ts:List fH}{t:List UInt8}{w:C7}{v1 v v0 vi:C8}
theorem nL(s:C6)(k:Nat)(a:k<s.size)(i c:Int)(d:i=k)(b:(s[k].toNat:Int)=c)(w:C7):(Instr.index 9 (.string s) (.int .i64 i)).run Tryz.prog w=.ok (.int .u8 c) w:=by
 subst d;exact uq s k a c b w
theorem nM(s:C6)(p n:Nat)(h:p+n<s.size):(s.data.toList.drop p)[n]?=some s[p+n]:=by
 rw[List.getElem?_drop,vm s (p+n) h]
theorem CD(_:p+n<=s.size)(c:∀(j:Nat) b,j<n->(s.data.toList.drop p)[j]?=some b->qq b=true)(d:∀_:p+n<s.size,qq s[p+n]=false):xN (s.data.toList.drop p)=n:=by
 refine l4 qq _ n (by rw[Ys,<-Yf];omega) c (fun b hb=>?_)
 have a:p+n<s.size:=by
  exact Uc
 rw[nM s p n a]at hb;injection hb with hb;exact hb▸d a
theorem QE(d:p+n<s.size)(a:∀(j:Nat) b,j<n->(s.data.toList.drop p)[j]?=some b->qq b=true)(c:qq s[p+n]=true):
 ∀(j:Nat) b,j<n+1->(s.data.toList.drop p)[j]?=some b->qq b=true:=by
 intro j b _ hb;by_cases e:j=n
 .subst e
  rw[nM s p j d]at hb;injection hb with hb;exact hb▸c
 .exact a j b O hb
def wO(w:C7)(s:C6)(ov c b:C8)(wr:C7):Prop:=
 ∃(a line:Nat) (ts:List fH),b=.int .i64 a/\c=.int .i64 line/\a<=s.size/\line<=a+1/\ts.length<=a/\uJ wr w.heap.size ov ts/\C2 w wr/\
   qG s.data.toList 1=(ts++(qG (s.data.toList.drop a) line).1,(qG (s.data.toList.drop a) line).2)
theorem EK(s:C6)(w:C7)(a:100000<s.size):C3 24 #[s] w (C0 (.tuple #[(),(2:Int),(0:Int)]) w):=by
 have b:decide ((100000 :Int)<s.size)=true:=Ut
 clear a;go_enter func24,ntmps24;go_wp2
 go_ret3
 exact⟨rfl,rfl⟩
theorem kj(s:C6)(p:Nat)(h:p<s.size):s.data.toList.drop p=s[p]::s.data.toList.drop (p+1):=by
 rw[List.drop_eq_getElem_cons (by rw[<-Yf];exact h)];rfl
theorem ZY{c:UInt8}{r:List UInt8}(line:Nat)(h:c.toNat=10):qG (c::r) line=qG r (line+1):=by
 rw[qG,Dq (by simp[h])]
theorem VO{c:UInt8}{r:List UInt8}(line:Nat)(a:y7 c=true)(b:c.toNat≠10):qG (c::r) line=qG r line:=by
 rw[qG,Dp Xb,Dq a]
theorem VP{l:List UInt8}(line:Nat)(h:Lib.hasPrefix l [47,47]=true):qG l line=qG (l.drop (l.takeWhile (fun d=>d.toNat != 10)).length) line:=by
 have:=QY l line;unfold nS at this;rw[Dq h,KZ]at this;exact this
section
variable {w wr:C7}{s:C6}{p line:Nat}{ov:C8}{ts:List fH}(hp:p<s.size)(hlp:line<=p+1)(htl:ts.length<=p)(hO:uJ wr w.heap.size ov ts)(hb:C2 w wr)
 (hsc:qG s.data.toList 1=(ts++(qG (s.data.toList.drop p) line).1,(qG (s.data.toList.drop p) line).2))
include hp hlp htl hO hb hsc
theorem zbt(X:Obj)(a:s[p].toNat=10):wO w s ov (.int .i64 ((line:Int)+1)) (.int .i64 ((p:Int)+1)) (wr.alloc X):=by
 have b:C2 wr (wr.alloc X):=Zb.alloc Zr _;refine⟨p+1,line+1,ts,by go_num,by go_num,hp,O,O,hO.below b,hb.alloc hb.size _,?_⟩;rw[hsc,kj s p hp,ZY line a]
theorem ZZ(X:Obj)(a:y7 s[p]=true)(b:s[p].toNat≠10):wO w s ov (.int .i64 line) (.int .i64 ((p:Int)+1)) (wr.alloc X):=by
 have c:C2 wr (wr.alloc X):=Zb.alloc Zr _;refine⟨p+1,line,ts,by go_num,rfl,hp,O,O,hO.below c,hb.alloc hb.size _,?_⟩;rw[hsc,kj s p hp,VO line a b]
omit hp in
theorem Z0(X:Obj)(q:Nat)(c:q<=s.size)(_:p<=q)(a:Lib.hasPrefix (s.data.toList.drop p) [47,47]=true)(e:((s.data.toList.drop p).takeWhile (fun d=>d.toNat != 10)).length=q-p):wO w s ov (.int .i64 line) (.int .i64 (q:Int)) (wr.alloc X):=by
 have b:C2 wr (wr.alloc X):=Zb.alloc Zr _;refine⟨q,line,ts,rfl,rfl,c,O,O,hO.below b,hb.alloc hb.size _,?_⟩;rw[hsc,VP line a,e,List.drop_drop,show p+(q-p)=q by omega]
end
theorem VQ{c:UInt8}(_:(c.toNat:Int)=32\/(c.toNat:Int)=9\/(c.toNat:Int)=13):y7 c=true/\c.toNat≠10:=by
 unfold y7;refine⟨?_,O⟩;simp;omega
theorem KO(s:C6)(p:Nat)(c:p+1<s.size)(_:(s[p].toNat:Int)=47)(_:(s[p+1].toNat:Int)=47):Lib.hasPrefix (s.data.toList.drop p) [47,47]=true:=by
 rw[kj s p O,kj s (p+1) c];have a:s[p]=47:=UInt8.toNat_inj.1 (by show s[p].toNat=47;omega);have b:s[p+1]=47:=UInt8.toNat_inj.1 (by show s[p+1].toNat=47;omega);rw[a,b];rfl
theorem HY{q:Nat}(_:p<=q)(_:q<=s.size)(a:∀(j:Nat) b,j<q-p->(s.data.toList.drop p)[j]?=some b->(b.toNat != 10)=true)(c:∀_:q<s.size,s[q].toNat=10):
 ((s.data.toList.drop p).takeWhile (fun d=>d.toNat != 10)).length=q-p:=by
 refine l4 _ _ (q-p) (by rw[Ys,<-Yf];omega) a (fun b hb=>?_)
 have f:p+(q-p)<s.size:=by
  exact Uc
 rw[nM s p (q-p) f]at hb;injection hb with hb;have e:=c O;simp only[show p+(q-p)=q by omega]at hb;rw[<-hb,e];rfl
theorem VS{q:Nat}(_:p<=q)(_:q<s.size)(a:∀(j:Nat) b,j<q-p->(s.data.toList.drop p)[j]?=some b->(b.toNat != 10)=true)(c:s[q].toNat≠10):
 ∀(j:Nat) b,j<q+1-p->(s.data.toList.drop p)[j]?=some b->(b.toNat != 10)=true:=by
 intro j b _ hb;by_cases e:j=q-p
 .subst e
  rw[nM s p (q-p) O]at hb;injection hb with hb;simp only[show p+(q-p)=q by omega]at hb;rw[<-hb];simpa using c
 .exact a j b O hb
theorem QF(hp:p<s.size)(a:xN (s.data.toList.drop p)=n)(_:0<n):qq s[p]=true:=by
 rw[kj s p hp]at a;unfold xN at a;cases h:qq s[p]with
 |true=>rfl
 |false=>
   rw[List.takeWhile_cons_of_neg (by simp[h])]at a;simp at a;omega
theorem VT(s:C6)(p:Nat)(hp:p<s.size)(hb:y7 s[p]=false)(f:¬((s[p].toNat:Int)=47/\∃b:p+1<s.size,(s[p+1].toNat:Int)=47)):nS (s.data.toList.drop p)=0:=by
 unfold nS;split
 .rename_i d
  exfalso;obtain⟨r,e⟩:=vM d
  have b:p+1<s.size:=by
   have:=congrArg List.length e;rw[Ys,<-Yf]at this;simp at this;omega
  rw[kj s p hp,kj s (p+1) b]at e;injection e with c a;injection a with a g;exact f ⟨by rw[c];rfl,b,by rw[a];rfl⟩
 .rw[kj s p hp,List.takeWhile_cons_of_neg (by simp[hb])]
  rfl
theorem VU{c:UInt8}(_:(c.toNat:Int)≠10)(_:¬((c.toNat:Int)=32\/(c.toNat:Int)=9\/(c.toNat:Int)=13)):y7 c=false:=by
 unfold y7;simp;omega
theorem QG(h:xr t=true):y8 t=some 2:=by unfold y8;rw[h];rfl
theorem QH{c:UInt8}(a:xr (c::t)=false)(b:lD c=true):y8 (c::t)=if xI (c::t)then some 1 else none:=by
 unfold y8
 have d:xM (c::t)=false:=by
  unfold xM;rw[List.all_cons,lE c b];simp
 rw[a,d];rfl
theorem VV{c:UInt8}(a:xr (c::t)=false)(b:lD c=false):y8 (c::t)=if xM (c::t)then some 0 else none:=by
 unfold y8
 have d:xI (c::t)=false:=by
  unfold xI;rw[Cp,b];simp
 rw[a,d];rfl
def zaq(b c a:Bool):Option Int:=if c then some 2 else if b then(if a then some 1 else none)else if a then some 0 else none
theorem VW(hp:p<s.size)(i:xN (s.data.toList.drop p)=n)(_:0<n)(b c f:Bool)(e:uO (s[p].toNat:Int)=b)(d:xr (s.extract p (p+n)).data.toList=c)
 (a:c=false->(if b then xI (s.extract p (p+n)).data.toList else xM (s.extract p (p+n)).data.toList)=f):
 wW (s.data.toList.drop p)=(zaq b c f).map fun k=>(k,(s.extract p (p+n)).data.toList):=by
 have g:(s.extract p (p+n)).data.toList=(s.data.toList.drop p).take n:=by rw[Lib.extract_data,show p+n-p=n by omega]
 rw[HU O,i,<-g];congr 1;obtain⟨m,rfl⟩:∃m,n=m+1:=⟨n-1,O⟩
 rw[g,kj s p hp,Y6]at d a ⊢;rw[iT]at e;unfold zaq;cases c with
 |true=>rw[QG d];rfl
 |false=>
   have a:=a rfl;cases b with
   |true=>
     rw[QH d e];rw[Dq rfl]at a;rw[a];rfl
   |false=>
     rw[VV d e];rw[Dp Uu]at a;rw[a];rfl
theorem MB(a:C7)(B:Nat)(v:C8)(ts:List fH)(k:Int)(b:C6)(line:Nat)(hO:uJ a B v ts)(d:B<=a.heap.size):
 (a.alloc (.cells #[(k:Int),b,(line:Int)] 76)).ownsRow B 76 3 v ts.length (jR ts)/\
 (∀j c,[Value.int .i64 k,.string b,.int .i64 line][j]?=some c->(a.alloc (.cells #[(k:Int),b,(line:Int)] 76)).cell? ((⟨a.heap.size,0,none⟩:Addr).add j)=some c)/\
 B<=(a.alloc (.cells #[(k:Int),b,(line:Int)] 76)).heap.size:=by
 have hb:C2 a (a.alloc (.cells #[(k:Int),b,(line:Int)] 76)):=Zb.alloc Zr _;refine⟨qS hO hb Zr,fun j c e=>?_,Dw d hb.size⟩;rw[show(⟨a.heap.size,0,none⟩:Addr).add j=⟨a.heap.size,j,none⟩by unfold Addr.add;split<;>simp_all];exact(cell_of_row _ a.heap.size j _ _ (0,0) (Ds a _)).trans Kg
theorem HZ(s:C6)(p:Nat)(c:Int)(f:¬(c=47/\∃_:p+1<s.size,(s[p+1].toNat:Int)=47)):
 (c == 47)=false\/(c=47/\decide ((p:Int)+1<s.size)=false)\/(c=47/\∃d:Int,(d == 47)=false/\(p:Int)+1<s.size/\∀w,(Instr.index 9 (.string s) (.int .i64 ((p:Int)+1))).run Tryz.prog w=.ok (.int .u8 d) w):=by
 by_cases a:c=47
 .by_cases b:p+1<s.size
  .refine .inr (.inr ⟨a,_,?_,O,nL s (p+1) b _ _ O rfl⟩)
   simpa using fun e=>f ⟨a,b,e⟩
  .exact .inr (.inl ⟨a,Ut⟩)
 .exact .inl Xd
theorem zdi(a:C7)(B:Nat)(v:C8)(ts:List fH)(k:Int)(b:C6)(line:Nat)(hO:uJ a B v ts)(d:B<=a.heap.size):
 ((a.alloc (.cells #[(k:Int),b,(line:Int)] 76)).alloc (.cells #[(k:Int),b,(line:Int)] 76)).ownsRow B 76 3 v ts.length (jR ts)/\
 (∀j c,[Value.int .i64 k,.string b,.int .i64 line][j]?=some c->((a.alloc (.cells #[(k:Int),b,(line:Int)] 76)).alloc (.cells #[(k:Int),b,(line:Int)] 76)).cell? ((⟨a.heap.size+1,0,none⟩:Addr).add j)=some c)/\
 B<=((a.alloc (.cells #[(k:Int),b,(line:Int)] 76)).alloc (.cells #[(k:Int),b,(line:Int)] 76)).heap.size:=by
 have hb:C2 a ((a.alloc (.cells #[(k:Int),b,(line:Int)] 76)).alloc (.cells #[(k:Int),b,(line:Int)] 76)):=
  (Zb.alloc Zr _).alloc Uu _
 refine⟨qS hO hb Zr,fun j c e=>?_,Dw d hb.size⟩;rw[show(⟨a.heap.size+1,0,none⟩:Addr).add j=⟨a.heap.size+1,j,none⟩by unfold Addr.add;split<;>simp_all];exact(cell_of_row _ (a.heap.size+1) j _ _ (0,0) (heap_alloc2_new a _ _)).trans Kg
theorem Z1{wr a:C7}{line:Nat}{ov v1:C8}{X:Obj}(hp:p=s.size)(hb:C2 w wr)(l:qG s.data.toList 1=(ts++(qG (s.data.toList.drop p) line).1,(qG (s.data.toList.drop p) line).2))
 (hO:uJ wr w.heap.size ov ts) (j:a.ownsRow w.heap.size 76 3 v1 (ts.length+1) (jR ts++[.int .i64 3,.string ⟨#[]⟩,.int .i64 line])) (f:(wr.alloc X).grownBy a ov.ownBlock):
 xf w s.data.toList (.returned (.tuple #[v1,(0:Int),(0:Int)])) a:=by
 have i:s.data.toList.drop p=[]:=List.drop_eq_nil_of_le (by rw[<-Yf];omega);have e:qG s.data.toList 1=(ts++[⟨3,[],line⟩],none):=by rw[l,i,VN]
 have b:C2 wr (wr.alloc X):=Zb.alloc Zr _;have d:uJ (wr.alloc X) w.heap.size ov ts:=hO.below b;have c:=hb.trans (b.mono hb.size);unfold xf;rw[e];refine⟨c.grown f c.size (fun k g=>(zU d k g).2),v1,rfl,?_⟩;unfold uJ;rw[lF,Dr];exact j
section
variable {w wr:C7}{s:C6}{p line:Nat}{ov:C8}{ts:List fH}(hp:p<s.size)(hlp:line<=p+1)(htl:ts.length<=p)(hO:uJ wr w.heap.size ov ts)(hb:C2 w wr)
 (hsc:qG s.data.toList 1=(ts++(qG (s.data.toList.drop p) line).1,(qG (s.data.toList.drop p) line).2)) (hgap:nS (s.data.toList.drop p)=0)
include hp hlp htl hO hb hsc hgap
theorem Z2{W:C7}(k:Int)(a:C6)(e:wW (s.data.toList.drop p)=some (k,a.data.toList))(d:C2 wr W)(b:C7)(v1:C8)
 (m:b.ownsRow w.heap.size 76 3 v1 (ts.length+1) (jR ts++[.int .i64 k,.string a,.int .i64 line])) (j:W.grownBy b ov.ownBlock):
 wO w s v1 (.int .i64 line) (.int .i64 ((p:Int)+a.size)) b:=by
 obtain⟨_,f,g⟩:=nK e;rw[Ys,<-Yf,<-Yf]at g;rw[<-Yf]at f;have c:C2 w W:=hb.trans (d.mono hb.size);have i:uJ W w.heap.size ov ts:=hO.below d;refine⟨p+a.size,line,ts++[⟨k,a.data.toList,line⟩],by go_num,rfl,O,O,by rw[Dr];simp;omega,?_,c.grown j c.size (fun k l=>(zU i k l).2),?_⟩
 .unfold uJ
  rw[lF,Dr,Lib.mk_data];exact m
 .rw[hsc,VL hgap e,List.drop_drop,<-Yf]
  simp
omit hlp htl hO in
theorem EL(d:wW (s.data.toList.drop p)=none)(a:C7)(b:C2 wr a):xf w s.data.toList (.returned (.tuple #[(),(20:Int),((line:Int):Int)])) a:=by
 have c:s.data.toList.drop p≠[]:=by rw[kj s p hp];simp
 have e:qG s.data.toList 1=(ts,some line):=by rw[hsc,VM hgap c d];simp
 unfold xf;rw[e];exact⟨hb.trans (b.mono hb.size),rfl⟩
end
theorem pY(s:C6)(w:C7)(ap:s.size<=100000):C3 24 #[s] w (xf w s.data.toList):=by
 have bi:decide ((100000 :Int)<s.size)=false:=Ut
 go_enter func24,ntmps24;go_wp2
 go_loopw [5,6,7] (fun ov aD B wr=>wO w s ov aD B wr) (fun _ _ B _=>s.size-(intOf B).toNat)
 case atStart=>exact⟨0,1,[],rfl,rfl,D1 _,O,D1 _,uJ.nil _ _,D5 _ _,rfl⟩
 case round=>
  obtain⟨p,line,ts,rfl,rfl,hp,hlp,htl,hO,hb,aR⟩:=hrel;have G:=U hO;have C:=U aR;clear hO aR;obtain⟨a,rfl⟩:∃a:C7,a=wr:=⟨_,rfl⟩
  by_cases v:p<s.size
  .have a9:(p:Int)<s.size:=by omega
   go_upto_block 2 with fail
   go_cut [9] (fun aE y=>a.alloc (.cells #[(0:Int),.string ⟨#[]⟩,(line:Int)] 76)=y/\∃n:Nat,p+n<=s.size/\aE=.int .i64 n/\xN (s.data.toList.drop p)=n)
   case first=>
    go_wp2_with fail
    go_loopg [9] s.size (fun g aE y=>a.alloc (.cells #[(0:Int),.string ⟨#[]⟩,(line:Int)] 76)=y/\∃n:Nat,p+n<=s.size/\g=s.size-n/\aE=.int .i64 n/\∀(j:Nat) b,j<n->(s.data.toList.drop p)[j]?=some b->qq b=true)
    case atStart=>exact⟨rfl,0,O,rfl,rfl,fun j b av=>absurd av O⟩
    case round=>
     obtain⟨rfl,n,aw,rfl,rfl,R⟩:=hrel;have E:=U R;clear R;by_cases D:p+n<s.size
     .obtain⟨c,J⟩:∃c:Int,(s[p+n].toNat:Int)=c:=⟨_,rfl⟩
      have a2:=nL s (p+n) D ((p:Int)+n) c O J;obtain⟨M,I⟩:=C4 (uO c);obtain⟨N,l⟩:=C4 (g8 c);have aG:Do (qq s[p+n]=(M || N)):=(by unfold Do qq;rw[<-I,<-l,<-J,iT,iU]);have r:=U I;have f:=U l;clear I l J;cases M<;>cases N
      all_goals
       go_wp2_with (first|(go_at_call 41;(with_reducible refine(jX _ _ r.o _).mono ?_);rintro e w' ⟨rfl,rfl⟩)|(go_at_call 42;(with_reducible refine(nU _ _ f.o _).mono ?_);rintro e w' ⟨rfl,rfl⟩))
      .go_meet
       exact⟨rfl,n,aw,rfl,CD O E.o (fun _=>aG.o)⟩
      all_goals
       go_roundg (s.size-(n+1))
       case measure=>omega
       case rel=>exact⟨rfl,n+1,O,rfl,by go_num,QE D E.o aG.o⟩
     .go_wp2
      go_meet
      exact⟨rfl,n,aw,rfl,CD O E.o (fun K=>absurd K D)⟩
   case rest=>
    obtain⟨rfl,n,aw,rfl,aS⟩:=hcut;have ao:=U aS;clear aS
    go_upto_block 4 with fail
    go_cut [6,7] (fun aD B y=>aD=.int .i64 line/\B=.int .i64 p/\∃(k:Int) (x:C6),nS (s.data.toList.drop p)=0/\wW (s.data.toList.drop p)=some (k,x.data.toList)/\Is y a.heap.size 76 #[(k:Int),x,(line:Int)]/\C2 a y)
    case first=>
     obtain⟨c,J⟩:∃c:Int,(s[p].toNat:Int)=c:=⟨_,rfl⟩
     have a2:=nL s p v (p:Int) c rfl J;have z:=U J;clear J;by_cases ae:c=10
     .subst ae
      go_wp2;go_roundw
      case rel=>exact zbt v hlp htl G.o hb C.o _ (by have:=z.o;omega)
      case measure=>simp[intOf];omega
     by_cases ag:c=32\/c=9\/c=13
     .have aF:Do (y7 s[p]=true/\s[p].toNat≠10):=VQ (by rw[z.o];exact ag)
      rcases ag with rfl|rfl|rfl
      all_goals
       go_wp2;go_roundw
       case rel=>exact ZZ v hlp htl G.o hb C.o _ aF.o.1 aF.o.2
       case measure=>simp[intOf];omega
     have a4:(c == 10)=false:=(by simpa using ae);have a6:(c == 32)=false:=Ut;have a7:(c == 9)=false:=Ut;have a5:(c == 13)=false:=Ut;by_cases S:c=47/\∃K:p+1<s.size,(s[p+1].toNat:Int)=47
     .obtain⟨rfl,K,aq⟩:=S
      have aO:=nL s (p+1) K ((p:Int)+1) 47 O aq;have bm:(p:Int)+1<s.size:=O;have aV:=U (KO s p K z.o aq);clear aq ae ag a4 a6 a7 a5
      go_upto_block 5 with fail
      go_cut [7] (fun B y=>a.alloc (.cells #[(0:Int),.string ⟨#[]⟩,(line:Int)] 76)=y/\∃q:Nat,p<q/\q<=s.size/\B=.int .i64 q/\((s.data.toList.drop p).takeWhile (fun d=>d.toNat != 10)).length=q-p)
      case first=>
       go_wp2_with fail
       go_loopg [7] (s.size-p) (fun g B y=>a.alloc (.cells #[(0:Int),.string ⟨#[]⟩,(line:Int)] 76)=y/\∃q:Nat,p<=q/\q<=s.size/\g=s.size-q/\B=.int .i64 q/\∀(j:Nat) b,j<q-p->(s.data.toList.drop p)[j]?=some b->(b.toNat != 10)=true)
       case atStart=>exact⟨rfl,p,Dz _,hp,rfl,rfl,fun j b av=>absurd av O⟩
       case round=>
        obtain⟨rfl,q,ak,P,rfl,rfl,R⟩:=hrel;have E:=U R;clear R;by_cases D:q<s.size
        .obtain⟨d,au⟩:∃d:Int,(s[q].toNat:Int)=d:=⟨_,rfl⟩
         have bl:=nL s q D (q:Int) d rfl au;have al:=U au;clear au;by_cases aM:d=10
         .subst aM
          have a8:p<q:=by
           rcases Cf p q with ap|ap
           .exact ap
           .obtain rfl:p=q:=by omega
            have bh:=z.o;have aY:=al.o;omega
          go_wp2
          go_meet
          exact⟨rfl,q,a8,P,rfl,HY ak P E.o (fun _=>by have:=al.o;omega)⟩
         .have bj:(d != 10)=true:=by simpa using aM
          go_wp2
          go_roundg (s.size-(q+1))
          case measure=>omega
          case rel=>exact⟨rfl,q+1,O,D,rfl,by go_num,VS ak D E.o (by have:=al.o;omega)⟩
        .go_wp2
         go_meet
         exact⟨rfl,q,O,P,rfl,HY ak P E.o (fun K=>absurd K D)⟩
      case rest=>
       obtain⟨rfl,q,ak,P,rfl,aU⟩:=hcut;have aX:=U aU;clear aU;go_wp2;go_roundw
       case rel=>exact Z0 hlp htl G.o hb C.o _ q P O aV.o aX.o
       case measure=>simp[intOf];omega
     .have m:=U (VT s p v (VU (by rw[z.o];exact ae) (by rw[z.o];exact ag)) (by rw[z.o];exact S))
      by_cases ab:0<n
      .have aP:(c == 47)=false:=by
        have ad:=QF v ao.o ab;rw[Cl];intro e;have aY:=z.o;simp at e;simp[qq,lD,kl]at ad;omega
       obtain⟨M,I⟩:=C4 (uO c);obtain⟨N,l⟩:=C4 (xr (s.extract p (p+n)).data.toList);obtain⟨aL,ar⟩:∃b,(N=false->(if M then xI (s.extract p (p+n)).data.toList else xM (s.extract p (p+n)).data.toList)=b):=⟨_,fun _=>rfl⟩
       have i:=U (VW v ao.o ab M N aL (by rw[z.o];exact I) l ar);have r:=U I;have f:=U l;have aa:=U ar;have Q:Do ((s.extract p (p+n)).size=n):=(by unfold Do;rw[Yf,Lib.extract_data,Yg,Ys,<-Yf];omega);have aJ:Do (0<(s.extract p (p+n)).size):=(by unfold Do;rw[Q.o];exact ab);have aK:Do ((s.extract p (p+n)).size<=281474976710656):=(by unfold Do;rw[Q.o];omega);have ba:(s.extract p (p+n)).size<=100000:=(by rw[Q.o];omega);clear I l ar S;cases M<;>cases N<;>cases aL
       .have F:Do (xM (s.extract p (p+n)).data.toList=false):=aa.o rfl
        go_wp2_with (first|(go_at_call 41;(with_reducible refine(jX _ _ r.o _).mono ?_);rintro e w' ⟨rfl,rfl⟩)|(go_at_call 43;(with_reducible refine(xO _ _ f.o _).mono ?_);rintro e w' ⟨rfl,rfl⟩)|(go_at_call 45;(with_reducible refine(o8 _ _ aJ.o aK.o _ F.o).mono ?_);rintro e w' ⟨rfl,rfl⟩))
        go_ret3
        exact EL v hb C.o m.o i.o _ (Zb.alloc Zr _)
       .have F:Do (xM (s.extract p (p+n)).data.toList=true):=aa.o rfl
        go_wp2_with (first|(go_at_call 41;(with_reducible refine(jX _ _ r.o _).mono ?_);rintro e w' ⟨rfl,rfl⟩)|(go_at_call 43;(with_reducible refine(xO _ _ f.o _).mono ?_);rintro e w' ⟨rfl,rfl⟩)|(go_at_call 45;(with_reducible refine(o8 _ _ aJ.o aK.o _ F.o).mono ?_);rintro e w' ⟨rfl,rfl⟩));exact Qx
       .go_wp2_with (first|(go_at_call 41;(with_reducible refine(jX _ _ r.o _).mono ?_);rintro e w' ⟨rfl,rfl⟩)|(go_at_call 43;(with_reducible refine(xO _ _ f.o _).mono ?_);rintro e w' ⟨rfl,rfl⟩))
        exact Qx
       .go_wp2_with (first|(go_at_call 41;(with_reducible refine(jX _ _ r.o _).mono ?_);rintro e w' ⟨rfl,rfl⟩)|(go_at_call 43;(with_reducible refine(xO _ _ f.o _).mono ?_);rintro e w' ⟨rfl,rfl⟩))
        exact Qx
       .have F:Do (xI (s.extract p (p+n)).data.toList=false):=aa.o rfl
        go_wp2_with (first|(go_at_call 41;(with_reducible refine(jX _ _ r.o _).mono ?_);rintro e w' ⟨rfl,rfl⟩)|(go_at_call 43;(with_reducible refine(xO _ _ f.o _).mono ?_);rintro e w' ⟨rfl,rfl⟩)|(go_at_call 44;(with_reducible refine(rT _ _ F.o _).mono ?_);rintro e w' ⟨rfl,rfl⟩))
        go_ret3
        exact EL v hb C.o m.o i.o _ (Zb.alloc Zr _)
       .have F:Do (xI (s.extract p (p+n)).data.toList=true):=aa.o rfl
        go_wp2_with (first|(go_at_call 41;(with_reducible refine(jX _ _ r.o _).mono ?_);rintro e w' ⟨rfl,rfl⟩)|(go_at_call 43;(with_reducible refine(xO _ _ f.o _).mono ?_);rintro e w' ⟨rfl,rfl⟩)|(go_at_call 44;(with_reducible refine(rT _ _ F.o _).mono ?_);rintro e w' ⟨rfl,rfl⟩));exact Qx
       .go_wp2_with (first|(go_at_call 41;(with_reducible refine(jX _ _ r.o _).mono ?_);rintro e w' ⟨rfl,rfl⟩)|(go_at_call 43;(with_reducible refine(xO _ _ f.o _).mono ?_);rintro e w' ⟨rfl,rfl⟩))
        exact Qx
       .go_wp2_with (first|(go_at_call 41;(with_reducible refine(jX _ _ r.o _).mono ?_);rintro e w' ⟨rfl,rfl⟩)|(go_at_call 43;(with_reducible refine(xO _ _ f.o _).mono ?_);rintro e w' ⟨rfl,rfl⟩))
        exact Qx
      .obtain⟨t,az⟩:∃t:C6,(⟨(yG (s.extract p s.size).data.toList).toArray⟩:C6)=t:=⟨_,rfl⟩
       have aI:=U az;have aT:t.data.toList=yG (s.data.toList.drop p):=(by rw[<-az,Lib.extract_to_end]);have a3:n=0:=O;subst a3;have aH:Do (wW (s.data.toList.drop p)=if t.data.toList≠[]then some (2,t.data.toList)else none):=(by unfold Do;rw[HV ao.o,<-aT]);clear az aT ab;by_cases aA:t.size=0
       .have ai:=y9 t aA
        have a1:t.toList.isEmpty=true:=(by rw[Ym,ai];rfl);have bk:t.toList=[]:=(by rw[Ym,ai]);have i:Do (wW (s.data.toList.drop p)=none):=(by unfold Do;rw[aH.o,ai];rfl);clear ai aA;have aB:(c == 47)=false\/(c=47/\decide ((p:Int)+1<s.size)=false)\/(c=47/\∃d:Int,(d == 47)=false/\(p:Int)+1<s.size/\∀w,(Instr.index 9 (.string s) (.int .i64 ((p:Int)+1))).run Tryz.prog w=.ok (.int .u8 d) w):=HZ s p c S;rcases aB with aP|⟨rfl,ay⟩|⟨rfl,d,a0,ay,aO⟩
        all_goals
         go_wp2_with (go_at_call 46;(with_reducible refine(HX _ _ aI.o _).mono ?_);rintro e L ⟨rfl,l⟩;have u:=U (Is.below (Ds a (.cells #[(0:Int),.string ⟨#[]⟩,(line:Int)] 76)) l Uu);have bb:L.cell? (a.heap.size,0)=some (.int .i64 0):=(u.o.cell 0).trans rfl;have bc:L.cell? (a.heap.size,1)=some (.string ⟨#[]⟩):=(u.o.cell 1).trans rfl;have aZ:=u.o.frozen 0;have f1:=u.o.frozen 1;have f:Do (C2 a L):=(Zb.alloc Zr _).trans (l.mono Uu))
         go_ret3
         exact EL v hb C.o m.o i.o _ ((f.o.setCell (p:=(a.heap.size,0)) Zr _).setCell (p:=(a.heap.size,1)) Zr _)
       .have ax:=jw t O
        have a1:t.toList.isEmpty=false:=(by rw[Ym];simpa using ax);have i:Do (wW (s.data.toList.drop p)=some (2,t.data.toList)):=(by unfold Do;rw[aH.o,Dq ax]);clear ax aA;have aB:(c == 47)=false\/(c=47/\decide ((p:Int)+1<s.size)=false)\/(c=47/\∃d:Int,(d == 47)=false/\(p:Int)+1<s.size/\∀w,(Instr.index 9 (.string s) (.int .i64 ((p:Int)+1))).run Tryz.prog w=.ok (.int .u8 d) w):=HZ s p c S;rcases aB with aP|⟨rfl,ay⟩|⟨rfl,d,a0,ay,aO⟩
        all_goals
         go_wp2_with (go_at_call 46;(with_reducible refine(HX _ _ aI.o _).mono ?_);rintro e L ⟨rfl,l⟩;have u:=U (Is.below (Ds a (.cells #[(0:Int),.string ⟨#[]⟩,(line:Int)] 76)) l Uu);have bb:L.cell? (a.heap.size,0)=some (.int .i64 0):=(u.o.cell 0).trans rfl;have bc:L.cell? (a.heap.size,1)=some (.string ⟨#[]⟩):=(u.o.cell 1).trans rfl;have aZ:=u.o.frozen 0;have f1:=u.o.frozen 1;have f:Do (C2 a L):=(Zb.alloc Zr _).trans (l.mono Uu))
         go_meet
         exact⟨rfl,rfl,2,t,m.o,i.o,(u.o.set 0 _).set 1 _,(f.o.setCell (p:=(a.heap.size,0)) Zr _).setCell (p:=(a.heap.size,1)) Zr _⟩
    case rest=>
     obtain⟨rfl,rfl,k,x,aN,aj,af,ah⟩:=hcut;have m:=U aN;clear aN;have be:wc.cell? (a.heap.size,0)=some (.int .i64 k):=(af.cell 0).trans rfl;have bf:wc.cell? (a.heap.size,1)=some (.string x):=(af.cell 1).trans rfl;have bg:wc.cell? (a.heap.size,2)=some (.int .i64 line):=(af.cell 2).trans rfl
     have ba:x.size<=100000:=by
      have:=(nK aj).2.2;rw[Ys,<-Yf,<-Yf]at this;omega
     have Q:Do (0<x.size/\p+x.size<=s.size):=by
      have ad:=(nK aj).2;rw[Ys,<-Yf,<-Yf]at ad;exact⟨ad.1,O⟩
     have i:=U aj;have H:=U (MB wc w.heap.size u5 ts k x line (G.o.below ah) (Dw hb.size ah.size));obtain⟨aC,V,X,Y,Z⟩:=info_parts E1;have A:=U (Dt V (Dt X (Dt Y Z)));clear aj af V X Y Z;go_wp2_with (at_builtin;refine wpList_append_own _ rfl (.tmp 158) (.tmp 160) _ rfl w.heap.size 76 aC _ 3 32 underlying68 A.o.1 A.o.2.1 A.o.2.2.1 A.o.2.2.2 rfl O u5 ts.length (jR ts) rfl (by exact H.o.1) ⟨wc.heap.size,0,none⟩ 1 1 [.int .i64 k,.string x,.int .i64 line] rfl rfl (by exact H.o.2.1) Uz Uy O (by exact H.o.2.2) ?_;intro v1 bd W T _;have an:=U W;have am:=U T;clear W T);go_roundw
     case rel=>exact Z2 v hlp htl G.o hb C.o m.o k x i.o (ah.trans (Zb.alloc Zr _ |>.mono ah.size)) _ _ an.o am.o
     case measure=>
      have bn:=Q.o;simp only[intOf];omega
  .have aQ:p=s.size:=by omega
   have a9:decide ((p:Int)<s.size)=false:=Ut
   have H:=U (MB a w.heap.size u5 ts 3 ⟨#[]⟩ line G.o hb.size);obtain⟨aC,V,X,Y,Z⟩:=info_parts E1;have A:=U (Dt V (Dt X (Dt Y Z)));have aW:=U aQ;clear V X Y Z aQ;go_wp2_with (at_builtin;refine wpList_append_own _ rfl (.tmp 162) (.tmp 165) _ rfl w.heap.size 76 aC _ 3 32 underlying68 A.o.1 A.o.2.1 A.o.2.2.1 A.o.2.2.2 rfl O u5 ts.length (jR ts) rfl (by exact H.o.1) ⟨a.heap.size,0,none⟩ 1 1 [.int .i64 3,.string ⟨#[]⟩,.int .i64 line] rfl rfl (by exact H.o.2.1) Uz Uy O (by exact H.o.2.2) ?_;intro v1 bd W T _;have an:=U W;have am:=U T;clear W T)
   go_ret3
   exact Z1 aW.o hb C.o G.o an.o am.o
def vD(R:Pr×Int×Nat)(w:C7)(e:Ending)(w':C7):Prop:=
 C2 w w'/\∃v0 v1,e=.returned (.tuple #[.agg #[v0,v1],(R.2.1:Int),((R.2.2:Int):Int)])/\gN w'.heap.size (fW (nQ w.heap.size) w') v0 R.1.wa/\gO w'.heap.size (fW (nQ w.heap.size) w') v1 R.1.funcs
theorem MC(B:Nat)(w:C7):gO B w (.slice none 0 0) []:=⟨none,0,rfl,D1 _,fun h=>absurd h Uu⟩
theorem nN{p:Nat->Bool}:∀g o u,fK B (fW p w) g o u->fK B w g o u:=fun _ _ _ h=>(jb h).2
theorem EI.tree{a:Pr}(b:EI L w a v):∃v0 v1,v=.agg #[v0,v1]/\gN w.heap.size w v0 a.wa/\gO w.heap.size w v1 a.funcs:=by
 obtain⟨v0,v1,e,c,d⟩:=b;exact⟨v0,v1,e,c.imp nN,d.imp nN⟩
theorem QI{b C:Nat}{w':C7}(h:fI b B w w')(_:C<=B)(hb:C<=b):Below C w w':=by
 have g:Below B (gR b w) (gR b w'):=h;exact⟨g.os,g.tape,g.output,h.size,fun k _=>h.block O O⟩
theorem Z3(k:uJ w B v ts)(d:qD ts)(n:ts.length<=1000000)(e:∀t∈ts,t.kind=0->xM t.text=true/\t.text.length<=281474976710656):
 jm w.heap.size v ts (.ok () ts) (w.alloc (.cells #[v,(0:Int),.bool false,.bool false] 73)):=by
 rcases k.2 with⟨rfl,a⟩|⟨g,i,_,rfl,_,c,_,_,_,l⟩
 .exact absurd a (by have:=d.pos;omega)
 .have m:g<w.heap.size:=(Array.getElem?_eq_some_iff.1 c).1
  refine⟨?_,⟨g,i,rfl,O,Ut,fun j _ b=>?_,n,fun t f a=>⟨(e t f a).1,?_⟩⟩,List.suffix_refl _,d⟩
  .rw[Yy]
   exact Ds w _
  .rw[Dv ((D7 w _ g m).trans c)]
   rw[<-l,Y8]at b;split at b
   .simpa using b
   .cases b
  .rw[Yf]
   exact(e t f a).2
def Rb(w W:C7):Prop:=C2 w W/\W.heap[w.heap.size]?=some yv
theorem Rb.start(w:C7):Rb w (w.alloc yv):=⟨Zb.alloc Zr _,Ds w yv⟩
section
variable {w W W':C7}
theorem Rb.lt(h:Rb w W):w.heap.size<W.heap.size:=(Array.getElem?_eq_some_iff.1 h.2).1
theorem Rb.below(h:Rb w W)(hb:C2 W W'):Rb w W':=⟨h.1.trans (hb.mono h.1.size),(hb.block _ h.lt).trans h.2⟩
theorem Rb.off{b B:Nat}(a:Rb w W)(c:fI b B W W')(d:w.heap.size<B)(hb:w.heap.size<b):Rb w W':=⟨a.1.trans (QI c O O),jI c d O a.2⟩
theorem Rb.alloc(h:Rb w W)(o:Obj):Rb w (W.alloc o):=h.below (Zb.alloc Zr o)
theorem Rb.drew(h:Rb w W):Rb w W.drew:=h.below Zb.drew
theorem Rb.own(h:Rb w W):(W.cell? (w.heap.size,0)=some (.slice none 0 0)/\W.cell? (w.heap.size,1)=some (.slice none 0 0))/\∀o,W.frozen? ⟨w.heap.size,o,none⟩=false:=xn h.2
theorem Rb.read(c:Rb w W)(a b:C8):((W.setCell (w.heap.size,0) a).setCell (w.heap.size,1) b).cell? (w.heap.size,0)=some a/\((W.setCell (w.heap.size,0) a).setCell (w.heap.size,1) b).cell? (w.heap.size,1)=some b:=(xn (CC c.2 a b)).1
theorem Rb.fail(a:Rb w W){R:Pr×Int×Nat}(e:Int)(ln:Nat)(b:R=(EP,e,ln)):vD R w (.returned (.tuple #[.agg #[.slice Option.none 0 0,.slice Option.none 0 0],(e:Int),((ln:Int):Int)])) W:=by
 subst b;exact⟨a.1,_,_,rfl,CN _ _,MC _ _⟩
theorem Rb.nest(c:Rb w W)(a b:C8):C2 w (uG W w.heap.size a b):=(c.1.setCell (p:=⟨w.heap.size,0,Option.none⟩) Zr _).setCell (p:=⟨w.heap.size,1,Option.none⟩) Zr _
theorem Rb.dk(c:Rb w W){R:Pr×Int×Nat}(e:Int)(ln:Nat)(d:R=(EP,e,ln))(a b:C8):vD R w (.returned (.tuple #[.agg #[.slice Option.none 0 0,.slice Option.none 0 0],(e:Int),((ln:Int):Int)])) (uG W w.heap.size a b):=by
 subst d;exact⟨c.nest a b,_,_,rfl,CN _ _,MC _ _⟩
theorem EI.keep{L b:Nat}{a:Pr}{v:C8}(d:EI L W a v)(k:zL L W W')(c:b<=L):EI b W' a v:=by
 obtain⟨v0,v1,g,e,f⟩:=d;exact⟨v0,v1,g,e.imp (k.cells c),f.imp (k.cells c)⟩
theorem Rb.give(c:Rb w W){R:Pr×Int×Nat}{p:Pr}{v0 v1:C8}(i:R=(p,0,0)){L:Nat}(f:EI L W p (.agg #[v0,v1]))(a:w.heap.size<L):vD R w (.returned (.tuple #[.agg #[v0,v1],(0:Int),(((0 :Nat):Int):Int)])) (uG W w.heap.size v0 v1):=by
 subst i;obtain⟨u0,u1,b,d,e⟩:=f.keep (zL.nest2 (g:=w.heap.size) a v0 v1) (D9 a);simp only[Value.agg.injEq,Array.mk.injEq,Ca,and_true]at b;obtain⟨rfl,rfl⟩:=b;exact⟨c.nest _ _,_,_,rfl,d,e⟩
end
theorem H0(s:C6)(w:C7)(a:100000<s.size):C3 13 #[s] w (vD (yV s) w):=by
 rw[oT a];have c:=U a;have b:=U (Rb.start w);clear a;go_enter func13,ntmps13;go_wp2_with (go_at_call 24;(with_reducible refine(EK s _ c.o).mono ?_);rintro e _ ⟨rfl,rfl⟩);obtain⟨⟨d,f⟩,_⟩:=b.o.own;refine bodyPost_ret (v:=.tuple #[.agg #[(),()],(2:Int),(((0 :Nat):Int):Int)]) (by simp[results,results13,go_sem,d,f]) rfl ?_;exact b.o.fail 2 0 rfl
theorem KP(s:C6)(w:C7)(a:s.size<=100000)(b:(qG s.data.toList 1).2=some ln):C3 24 #[s] w (Cz (.tuple #[(),(20:Int),((ln:Int):Int)]) w):=
 (pY s w a).mono fun e w' hp=>by
   unfold xf at hp;rw[b]at hp;exact⟨hp.2,hp.1⟩
theorem uH(s:C6)(w:C7)(a:s.size<=100000)(f:qG s.data.toList 1=(ts,none)):C3 24 #[s] w fun e w'=>∃v,e=.returned (.tuple #[v,(0:Int),(0:Int)])/\uJ w' w.heap.size v ts/\C2 w w':=
 (pY s w a).mono fun e w' hp=>by
   unfold xf at hp;rw[f]at hp;obtain⟨b,v,c,d⟩:=hp;exact⟨v,c,d,b⟩
theorem QJ(s:C6)(w:C7)(b:s.size<=100000)(c:(qG s.data.toList 1).2=some ln):C3 13 #[s] w (vD (yV s) w):=by
 rw[DY b c];have d:=U b;have f:=U c;have a:=U (Rb.start w);clear b c;go_enter func13,ntmps13
 go_wp2_with (go_at_call 24;(with_reducible refine(KP s _ d.o f.o).mono ?_);rintro e _ ⟨rfl,hb⟩
              replace a:=U (a.o.below hb);obtain⟨⟨g,i⟩,_⟩:=a.o.own
              clear hb)
 refine bodyPost_ret (v:=.tuple #[.agg #[(),()],(20:Int),((ln:Int):Int)]) (by simp[results,results13,go_sem,g,i]) rfl ?_;exact a.o.dk 20 ln rfl _ _
theorem EM{W:C7}(e:uJ W B v ts)(c:qG s.data.toList 1=(ts,none))(_:s.size<=100000):jm W.heap.size v ts (.ok () ts) (W.alloc (.cells #[v,(0:Int),.bool false,.bool false] 73)):=by
 have f:s.size=s.data.toList.length:=rfl;obtain⟨b,_⟩:=uk _ _ _ _ Zr c;exact Z3 e (kK _ _ _ _ Zr c) O fun t d a=>⟨(b t d a).1,by have:=(b t d a).2;omega⟩
theorem j5(h:uJ w B v ts):∃A c,v=.slice A ts.length c:=zZ h
theorem H1{W:C7}{p:Pr}{c:Bool}{o:Obj}(b:EI L W p (.agg #[v0,v1]))(g:f5 p=c):C3 26 #[.agg #[v0,v1]] (W.alloc o) fun e w'=>e=.returned (.bool c)/\Below (W.alloc o).heap.size (W.alloc o) w':=by
 obtain⟨u0,u1,a,d,f⟩:=(b.keep (zL.wb (L:=L) (Zb.alloc Zr o)) Zr).tree;simp only[Value.agg.injEq,Array.mk.injEq,Ca,and_true]at a;obtain⟨rfl,rfl⟩:=a;exact zAm _ p c g _ _ _ Zr d f
theorem QK(s:C6)(w:C7)(H:s.size<=100000)(F:qG s.data.toList 1=(ts,none)){p:Pr}(hp:kX ts=.ok p r):C3 13 #[s] w (vD (yV s) w):=by
 obtain⟨c,I⟩:=C4 (f5 p)
 have Q:yV s=if c=true then(p,0,0)else(EP,2,0):=by
  rw[iM H F];unfold JT;rw[hp,<-I]
 have K:=C5 (zI ((PR.ok () ts).bind fun _ r=>k5 (20*ts.length+40) ⟨[],[]⟩ r)) (yb (kK _ _ _ _ Zr F));have D:=U hp;have J:=U I;have C:=U H;have E:=U F;have f:=U (Rb.start w);have M:=U Q;clear H F hp I Q;cases c
 case false=>
  go_enter func13,ntmps13
  go_wp2_with (first
   | (go_at_call 24;(with_reducible refine(uH s _ C.o E.o).mono ?_);rintro e d ⟨v,rfl,l,hb⟩
      obtain⟨g,j,rfl⟩:=j5 l;have G:=U l;replace f:=U (f.o.below hb)
      clear hb l)
   | (go_at_call 25;(with_reducible refine(nI (EM G.o E.o C.o) K.o).mono ?_);rintro e b ⟨v,rfl,k,z⟩
      have m:ze d.heap.size (.slice g ts.length j) ts r false false b:=by
       exact Ua
      have i:=U (show EI (d.alloc (.cells #[(g,ts.length,j),(0:Int),.bool false,.bool false] 73)).heap.size b p v by
       have a:ja (kX ts) _:=z;rw[D.o]at a
       exact a)
      obtain⟨v0,v1,rfl,x,y⟩:=i.o;obtain⟨q,A,rfl,_⟩:=x.form;obtain⟨t,B,rfl,_⟩:=y.form;obtain⟨R,S,T,V⟩:=m.cells;have Z:=f.o.lt;have u:=U ((f.o.alloc _).off k.off Ut O);have Y:d.heap.size<b.heap.size:=m.lt;have aa:=u.o.lt
      clear k z m x y)
   | (go_at_call 26;(with_reducible refine(H1 i.o J.o).mono ?_);rintro e af ⟨rfl,hb⟩
      have L:=U (i.o.keep ((zL.wb (Zb.alloc Zr _)).trans (zL.wb hb)) Zr);have n:=U ((u.o.alloc _).below hb);obtain⟨⟨ab,ad⟩,ae⟩:=xn ((hb.block _ Uu).trans (Ds b (.cells #[(q,p.wa.length,A),(t,p.funcs.length,B)] 27)));obtain⟨⟨N,P⟩,X⟩:=n.o.own
      clear hb))
  refine bodyPost_ret (v:=.tuple #[.agg #[(),()],(2:Int),(((0 :Nat):Int):Int)]) (by simp[results,results13,go_sem,N,P]) rfl ?_;exact n.o.dk 2 0 (by rw[M.o];rfl) _ _
 case true=>
  go_enter func13,ntmps13
  go_wp2_with (first
   | (go_at_call 24;(with_reducible refine(uH s _ C.o E.o).mono ?_);rintro e d ⟨v,rfl,l,hb⟩
      obtain⟨g,j,rfl⟩:=j5 l;have G:=U l;replace f:=U (f.o.below hb)
      clear hb l)
   | (go_at_call 25;(with_reducible refine(nI (EM G.o E.o C.o) K.o).mono ?_);rintro e b ⟨v,rfl,k,z⟩
      have m:ze d.heap.size (.slice g ts.length j) ts r false false b:=by
       exact Ua
      have i:=U (show EI (d.alloc (.cells #[(g,ts.length,j),(0:Int),.bool false,.bool false] 73)).heap.size b p v by
       have a:ja (kX ts) _:=z;rw[D.o]at a
       exact a)
      obtain⟨v0,v1,rfl,x,y⟩:=i.o;obtain⟨q,A,rfl,_⟩:=x.form;obtain⟨t,B,rfl,_⟩:=y.form;obtain⟨R,S,T,V⟩:=m.cells;have Z:=f.o.lt;have u:=U ((f.o.alloc _).off k.off Ut O);have Y:d.heap.size<b.heap.size:=m.lt;have aa:=u.o.lt
      clear k z m x y)
   | (go_at_call 26;(with_reducible refine(H1 i.o J.o).mono ?_);rintro e af ⟨rfl,hb⟩
      have L:=U (i.o.keep ((zL.wb (Zb.alloc Zr _)).trans (zL.wb hb)) Zr);have n:=U ((u.o.alloc _).below hb);obtain⟨⟨ab,ad⟩,ae⟩:=xn ((hb.block _ Uu).trans (Ds b (.cells #[(q,p.wa.length,A),(t,p.funcs.length,B)] 27)));obtain⟨⟨N,P⟩,X⟩:=n.o.own
      clear hb))
  obtain⟨W,f1⟩:=n.o.read (.slice q p.wa.length A) (.slice t p.funcs.length B);refine bodyPost_ret (v:=.tuple #[.agg #[(q,p.wa.length,A),(t,p.funcs.length,B)],(0:Int),(((0 :Nat):Int):Int)]) (by simp[results,results13,go_sem,W,f1]) rfl ?_;exact n.o.give (by rw[M.o];rfl) L.o Ut
theorem KQ(s:C6)(w:C7)(z:s.size<=100000)(m:qG s.data.toList 1=(ts,none))(hp:kX ts=.bad r):C3 13 #[s] w (vD (yV s) w):=by
 have K:yV s=(EP,20,WO r):=by
  rw[iM z m];unfold JT;rw[hp]
 have N:=C5 (zI ((PR.ok () ts).bind fun _ r=>k5 (20*ts.length+40) ⟨[],[]⟩ r)) (yb (kK _ _ _ _ Zr m));have F:=U hp;have E:=U z;have G:=U m;have f:=U (Rb.start w);have Q:=U K;clear z m hp K;go_enter func13,ntmps13
 go_wp2_with (first
  | (go_at_call 24;(with_reducible refine(uH s _ E.o G.o).mono ?_);rintro e b ⟨v,rfl,B,hb⟩
     obtain⟨n,y,rfl⟩:=j5 B;have x:=U B;replace f:=U (f.o.below hb)
     clear hb B)
  | (go_at_call 25;(with_reducible refine(nI (EM x.o G.o E.o) N.o).mono ?_);rintro e c ⟨v,rfl,A,J⟩
     have l:ze b.heap.size (.slice n ts.length y) ts r true false c:=by
      exact Ub
     have V:∃a,EI (b.alloc (.cells #[(n,ts.length,y),(0:Int),.bool false,.bool false] 73)).heap.size c a v:=by
      have d:ja (kX ts) _:=J;rw[F.o]at d;exact d
     obtain⟨a,v0,v1,rfl,H,I⟩:=V;obtain⟨p,C,rfl,_⟩:=H.form;obtain⟨u,D,rfl,_⟩:=I.form;obtain⟨g,_,k,t,q,W,L,ad,_,_,_,R,_,_,_,_,M⟩:=l.tok;injection W with X _ Y;subst X Y
     have Z:g≠b.heap.size/\g<c.heap.size/\g≠w.heap.size:=by
      exact Qy
     obtain⟨_,aa,ab⟩:=Z;have af:w.heap.size≠g:=fun e=>ab e.symm;have P:=U (show(t.line:Int)=(WO r:Int)by rw[L];rfl);have ai:=f.o.lt;have i:=U (((f.o.alloc _).off A.off Ut O).alloc (.cells #[(p,a.wa.length,C),(u,a.funcs.length,D)] 27));obtain⟨⟨_,_⟩,_⟩:=i.o.own;have T:b.heap.size<c.heap.size:=l.lt;have ag:(k:Int)<ts.length:=O;have aj:=i.o.lt;have ah:w.heap.size≠b.heap.size:=O
     clear A J l H I L ad))
 have ak:(c.alloc (.cells #[(p,a.wa.length,C),(u,a.funcs.length,D)] 27)).cell? (b.heap.size,1)=some (.int .i64 (k:Int)):=Ho
 have al:(c.alloc (.cells #[(p,a.wa.length,C),(u,a.funcs.length,D)] 27)).cell? (g,k*3+2)=some (.int .i64 (t.line:Int)):=Hn
 go_region_held3 (fun w'=>w'.cell? (b.heap.size,1)=some (.int .i64 (k:Int))/\w'.cell? (g,k*3+2)=some (.int .i64 (t.line:Int)))
  (go_keep)
  (fail)
 all_goals
  go_wp2_with fail;obtain⟨S,f1⟩:=i.o.read (.slice none 0 0) (.slice none 0 0);refine bodyPost_ret (v:=.tuple #[.agg #[(),()],(20:Int),(((WO r:Nat):Int):Int)]) (by rw[<-P.o];simp[results,results13,go_sem,S,f1]) rfl ?_;exact i.o.drew.dk 20 (WO r) Q.o _ _
theorem H2(s:C6)(w:C7)(z:s.size<=100000)(m:qG s.data.toList 1=(ts,none))(hp:kX ts=.deep r):C3 13 #[s] w (vD (yV s) w):=by
 have K:yV s=(EP,2,WO r):=by
  rw[iM z m];unfold JT;rw[hp]
 have N:=C5 (zI ((PR.ok () ts).bind fun _ r=>k5 (20*ts.length+40) ⟨[],[]⟩ r)) (yb (kK _ _ _ _ Zr m));have F:=U hp;have E:=U z;have G:=U m;have f:=U (Rb.start w);have Q:=U K;clear z m hp K;go_enter func13,ntmps13
 go_wp2_with (first
  | (go_at_call 24;(with_reducible refine(uH s _ E.o G.o).mono ?_);rintro e b ⟨v,rfl,B,hb⟩
     obtain⟨n,y,rfl⟩:=j5 B;have x:=U B;replace f:=U (f.o.below hb)
     clear hb B)
  | (go_at_call 25;(with_reducible refine(nI (EM x.o G.o E.o) N.o).mono ?_);rintro e c ⟨v,rfl,A,J⟩
     have l:ze b.heap.size (.slice n ts.length y) ts r false true c:=by
      exact Ub
     have V:∃a,EI (b.alloc (.cells #[(n,ts.length,y),(0:Int),.bool false,.bool false] 73)).heap.size c a v:=by
      have d:ja (kX ts) _:=J;rw[F.o]at d;exact d
     obtain⟨a,v0,v1,rfl,H,I⟩:=V;obtain⟨p,C,rfl,_⟩:=H.form;obtain⟨u,D,rfl,_⟩:=I.form;obtain⟨g,_,k,t,q,W,L,ad,_,_,_,R,_,_,_,_,M⟩:=l.tok;injection W with X _ Y;subst X Y
     have Z:g≠b.heap.size/\g<c.heap.size/\g≠w.heap.size:=by
      exact Qy
     obtain⟨_,aa,ab⟩:=Z;have af:w.heap.size≠g:=fun e=>ab e.symm;have P:=U (show(t.line:Int)=(WO r:Int)by rw[L];rfl);have ai:=f.o.lt;have i:=U (((f.o.alloc _).off A.off Ut O).alloc (.cells #[(p,a.wa.length,C),(u,a.funcs.length,D)] 27));obtain⟨⟨_,_⟩,_⟩:=i.o.own;have T:b.heap.size<c.heap.size:=l.lt;have ag:(k:Int)<ts.length:=O;have aj:=i.o.lt;have ah:w.heap.size≠b.heap.size:=O
     clear A J l H I L ad))
 have ak:(c.alloc (.cells #[(p,a.wa.length,C),(u,a.funcs.length,D)] 27)).cell? (b.heap.size,1)=some (.int .i64 (k:Int)):=Ho
 have al:(c.alloc (.cells #[(p,a.wa.length,C),(u,a.funcs.length,D)] 27)).cell? (g,k*3+2)=some (.int .i64 (t.line:Int)):=Hn
 go_region_held3 (fun w'=>w'.cell? (b.heap.size,1)=some (.int .i64 (k:Int))/\w'.cell? (g,k*3+2)=some (.int .i64 (t.line:Int)))
  (go_keep)
  (fail)
 all_goals
  go_wp2_with fail;obtain⟨S,f1⟩:=i.o.read (.slice none 0 0) (.slice none 0 0);refine bodyPost_ret (v:=.tuple #[.agg #[(),()],(2:Int),(((WO r:Nat):Int):Int)]) (by rw[<-P.o];simp[results,results13,go_sem,S,f1]) rfl ?_;exact i.o.drew.dk 2 (WO r) Q.o _ _
theorem wP(s:C6)(w:C7):C3 13 #[s] w (vD (yV s) w):=by
 by_cases c:100000<s.size
 .exact H0 s w c
 .cases hs:(qG s.data.toList 1).2 with
  |some ln=>exact QJ s w O hs
  |none=>
    have a:=oU hs;cases hp:kX (qG s.data.toList 1).1 with
    |ok p r=>exact QK s w O a hp
    |bad r=>exact KQ s w O a hp
    |deep r=>exact H2 s w O a hp
    |o=>
      have b:=yb (kK _ _ _ _ Zr a);rw[hp]at b;exact absurd b id
structure gH (B:Nat) (p:Pr) (v0 v1:C8) (w:C7):Prop where
 hB:B<=w.heap.size
 tab:fQ B w
 ha:gN B w v0 p.wa
 hf:gO B w v1 p.funcs
theorem gH.below{p:Pr}{w':C7}(h:gH B p v0 v1 w)(hb:C2 w w'):gH B p v0 v1 w':=⟨Dw h.hB hb.size,h.tab.below (hb.mono h.hB),h.ha.below (hb.mono h.hB) Zr,h.hf.below (hb.mono h.hB) Zr⟩
theorem gH.mono{a:Nat}{p:Pr}(b:gH B p v0 v1 w)(c:B<=a)(d:a<=w.heap.size):gH a p v0 v1 w:=⟨d,b.tab.mono c,b.ha.below Zb c,b.hf.below Zb c⟩
theorem VX{p:Pr}(c:EI L w p (.agg #[v0,v1])):gN w.heap.size w v0 p.wa/\gO w.heap.size w v1 p.funcs:=by
 obtain⟨u0,u1,b,d,e⟩:=c;simp only[Value.agg.injEq,Array.mk.injEq,Ca,and_true]at b;obtain⟨rfl,rfl⟩:=b;exact⟨gN.imp (fun _ _ _ a=>(jb a).2) d,gO.imp (fun _ _ _ a=>(jb a).2) e⟩
def zdw(p:Pr)(e:Int)(ln:Nat)(w:C7)(x:Ending)(w':C7):Prop:=
 ∃a c b d,x=.returned (.tuple #[.agg #[.slice a p.wa.length c,.slice b p.funcs.length d],(e:Int),((ln:Int):Int)])/\C2 w w'/\gH w'.heap.size p (.slice a p.wa.length c) (.slice b p.funcs.length d) w'
theorem wQ(s:C6)(l:fQ B w)(c:B<=w.heap.size){p:Pr}{e:Int}(k:yV s=(p,e,ln)):C3 13 #[s] w (zdw p e ln w):=
 (wP s w).mono fun x w' ⟨hb,v0,v1,d,a,b⟩=>by
   rw[k]at d a b;replace a:=gN.imp nN a;replace b:=gO.imp nN b;obtain⟨f,i,rfl,_⟩:=a.form;obtain⟨g,j,rfl,_⟩:=b.form;exact⟨f,i,g,j,d,hb,Dz _,(l.below (hb.mono c)).mono (Dw c hb.size),a,b⟩
theorem VY:t4 EP:=⟨by kernel_rfl,⟨fun a c=>Kl,fun f b=>Vh⟩,D1 _,D1 _,fun f b=>Vh,fun f b=>Vh⟩
theorem zcv(c:fQ B w)(b:B<=w.heap.size):gH B EP (.slice none 0 0) (.slice none 0 0) w:=⟨b,c,CN _ _,⟨none,0,rfl,D1 _,fun a=>absurd a (by simp[EP])⟩⟩
theorem j6{p:Pr}{k:Int}(a:yV s=(p,k,ln)):t4 p:=by
 by_cases b:k=0
 .subst b;exact O5 a
 .rw[O4 a b];exact VY
theorem gH.box{q:Pr}{a b:Option Addr}{e c n1 d:Nat}(f:gH w.heap.size q (.slice a e c) (.slice b n1 d) w):C2 w (w.alloc (qd a e c b n1 d))/\(w.alloc (qd a e c b n1 d)).heap[w.heap.size]?=some (qd a e c b n1 d)/\(w.alloc (qd a e c b n1 d)).heap.size=w.heap.size+1/\gH w.heap.size q (.slice a e c) (.slice b n1 d) (w.alloc (qd a e c b n1 d)):=by
 have hb:C2 w (w.alloc (qd a e c b n1 d)):=Zb.alloc Zr _;exact⟨hb,Ds w _,zA _ _,f.below hb⟩
end Go.Proofs.YtjadgpiafjdnfaaGreatDoor
namespace Go.Proofs.YtjadgpiafjdnfaaGreatDoor
open Go.RowKit Tryz Go.Maps
variable{s:C6}{p n B L ln:Nat}{r ts:List fH}{t:List UInt8}{w:C7}{v1 v v0 vi:C8}
def VZ(c:Option Int)(t:RS):Int:=match c with
 |some _=>1
 |none=>t.stat
def V0(c:Option Int):Int:=match c with
 |some n=>n
 |none=>0
theorem KR{r:fR yF}:U0 r=(VZ (z1 r).1 (z1 r).2,V0 (z1 r).1,(z1 r).2.o,(z1 r).2.cost,(z1 r).2.fuel):=by
 cases r with
 |ok _ s=>rfl
 |fin s=>rfl
theorem zbu(c:Option Int)(t:RS):enV c t=.agg #[(VZ c t:Int),(V0 c:Int)]:=by cases c<;>rfl
theorem V1(B:Nat)(p:Pr)(b:List Int)(q:Int)(v0 v1 vi:C8)(w:C7)(bi:gH B p v0 v1 w)(aV:t4 p)(aN:∀f∈p.funcs,fJ f.body 0<=1000000000)(Y:k8 B w vi b)(aK:fT b)(_:q<=1000000)(_: -9223372036854775808<=q):
 C3 7 #[.agg #[v0,v1],vi,(q:Int)] w fun e w'=>∃ak,e=.returned (zcs ak (vT p b q))/\zbo w.heap.size w' ak (vT p b q)/\C2 w w':=by
 obtain⟨E,aW,S,W⟩:=bi;obtain⟨c,i,rfl,_⟩:=S.form;obtain⟨d,j,rfl,_⟩:=W.form;obtain⟨a2,bh,rfl,_⟩:=Y.1.form;obtain⟨⟨L,m,n⟩,aD⟩:=C4 (vB p);have aY:C2 w ((w.alloc (qd c p.wa.length i d p.funcs.length j)).alloc (z0 0 0 (.slice none 0 0) 0 0)):=(Zb.alloc Zr _).alloc Uw _;have ae:((w.alloc (qd c p.wa.length i d p.funcs.length j)).alloc (z0 0 0 (.slice none 0 0) 0 0)).heap.size=w.heap.size+2:=by rw[zA,zA]
 have ad:((w.alloc (qd c p.wa.length i d p.funcs.length j)).alloc (z0 0 0 (.slice none 0 0) 0 0)).heap[w.heap.size]?=some (qd c p.wa.length i d p.funcs.length j):=zv (Ds w _) _;have aU:((w.alloc (qd c p.wa.length i d p.funcs.length j)).alloc (z0 0 0 (.slice none 0 0) 0 0)).heap[w.heap.size+1]?=some (z0 0 0 (.slice none 0 0) 0 0):=by have:=Ds (w.alloc (qd c p.wa.length i d p.funcs.length j)) (z0 0 0 (.slice none 0 0) 0 0);rw[zA]at this;exact this
 have az:=U aW;have am:=U S;have aq:=U W;have K:=U aV;have J:=U aD;have av:=U Y;have a5:=U aK;have a6:=U aN;clear aW S W aV aD Y aK aN;go_enter func7,ntmps7;go_upto_region 1 with fail;generalize(w.alloc (.cells #[(c,p.wa.length,i),(d,p.funcs.length,j)] 27)).alloc (.cells #[(0:Int),(0:Int),(),(0:Int),(0:Int)] 32)=WA at *;have bG:=Dx ae;have bH:=Dx ae.symm;clear ae;obtain⟨⟨be,bf⟩,bg⟩:=zG ad;have bD:w.heap.size<WA.heap.size:=O
 have z:=U aY;have bd:=U ad;have ay:=U aU;clear aY ad aU;have ap:=U (OS B p (L,m,n) (.slice c p.wa.length i) (.slice d p.funcs.length j) WA (az.o.below (z.o.mono E)) O (am.o.below (z.o.mono E) Zr) (aq.o.below (z.o.mono E) Zr) K.o.sz K.o.n1 K.o.n2 J.o);by_cases P:L=0
 case neg=>
  have bx:(L != 0)=true:=by simpa using P
  have r:(vB p).1≠0:=by rw[J.o];exact P
  go_upto_region 2 with(go_at_call 15;(with_reducible refine(ap.o).mono ?_);rintro e al ⟨rfl,a⟩
                        have D:=U (z.o.trans ((a.alloc Xt (.cells #[((m:Int):Int),(fX n:Int)] 45)).mono O));have u:=U (zv ((a.block (w.heap.size+1) O).trans ay.o) (.cells #[((m:Int):Int),(fX n:Int)] 45))
                        clear a)
  generalize al.alloc (.cells #[((m:Int):Int),(fX n:Int)] 45)=W1 at *;obtain⟨⟨bp,bq,br,bs,bt⟩,bu⟩:=zi u.o;have aM:w.heap.size+1<W1.heap.size:=zB u.o;go_wp2_with fail;have R:=iQ u.o (.int .i64 0) (.int .i64 0) (.slice none 0 0) (.int .i64 0) (.int .i64 0);have Q:=vh (g:=w.heap.size+1) (show C2 w W1 from D.o) O (.int .i64 0) (.int .i64 0) (.slice none 0 0) (.int .i64 0) (.int .i64 0);obtain⟨⟨af,ag,ah,ai,aj⟩,_⟩:=zi R;refine bodyPost_ret (v:=.agg #[(0:Int),(0:Int),(),(0:Int),(0:Int)]) (by simp[results,results7,go_sem,af,ag,ah,ai,aj]) rfl ?_;rw[B4 r];exact⟨_,rfl,⟨Yp _ _ _ _,D1 _⟩,Q⟩
 case pos=>
  subst P;have r:(vB p).1=0:=by rw[J.o]
  obtain⟨aT,bk,N,G,X⟩:=iP r;obtain⟨F,hF⟩:∃F:Nat,q.toNat=F:=⟨_,rfl⟩
  have bw:max q 0=(F:Int):=by rw[<-hF];omega
  have aC:F<=1000000:=O
  have I:=wE r G b q;rw[hF,KR]at I;have aa:=zbn r G X b aC;have au:=U (zbm r a6.o);have ar:=U (Dt G (show N.params.length=0 by rw[X];rfl));have a9:=U aT;obtain⟨M,aI⟩:∃x,x=(z1 (qH (qo p F) [] N.body (xA p b F))).1:=⟨_,rfl⟩
  obtain⟨t,aX⟩:∃x,x=(z1 (qH (qo p F) [] N.body (xA p b F))).2:=⟨_,rfl⟩
  rw[<-aI,<-aX]at I aa;have aJ:=zbu M t;generalize VZ M t=st at *;generalize V0 M=tn at *;have bb:=U I;have bc:=U aa;have a4:=U aJ;clear I aa aJ;clear r aT bk G X aI aX hF
  go_upto_region 4 with(go_at_call 15;(with_reducible refine(ap.o).mono ?_);rintro e al ⟨rfl,a⟩
                        have D:=U (z.o.trans ((a.alloc Xt (.cells #[((m:Int):Int),(fX n:Int)] 45)).mono O));have u:=U (zv ((a.block (w.heap.size+1) O).trans ay.o) (.cells #[((m:Int):Int),(fX n:Int)] 45));have aA:=U (zv ((a.block w.heap.size O).trans bd.o) (.cells #[((m:Int):Int),(fX n:Int)] 45))
                        clear a)
  generalize al.alloc (.cells #[((m:Int):Int),(fX n:Int)] 45)=W1 at *;clear be bf bg;obtain⟨⟨aZ,a0⟩,a1⟩:=zG aA.o;have bv:w.heap.size<W1.heap.size:=zB aA.o;have aM:w.heap.size+1<W1.heap.size:=zB u.o;have A:=D.o.mono E;have a8:=U (U9 p (.slice c p.wa.length i) (.slice d p.funcs.length j) (.slice a2 b.length bh) b F W1 (am.o.below A O) (aq.o.below A O) (av.o.below A O) au.o)
  go_upto_region 5 with(go_at_call 16;(with_reducible refine(a8.o).mono ?_);rintro e _ ⟨rfl,_,_,_,bo,aP,aO,rfl⟩
                        have Z:=VE rfl aP aO au.o ((az.o.below A).mono O) a9.o (av.o.below A O) a5.o aC;have ao:=U Z.2;have a3:=U (UY Z.1 rfl ar.o.1 ar.o.2 O bc.o)
                        clear aP aO Z)
  generalize bo.setCell (W1.heap.size+1+1+1,9) ((F:Int):Int)=W2 at *;clear aZ a0 a1
  go_upto_region 6 with(go_at_call 17;(with_reducible refine(a3.o).mono ?_);rintro e l ⟨rfl,⟨_,_,_,ak,V,ab,aQ,aR⟩,T⟩
                        rw[a4.o];obtain⟨s,y,rfl⟩:=zZ ab;have aE:C2 W1 (l.alloc (.cells #[(st:Int),(tn:Int)] 51)):=(ao.o.trans T).alloc (by have:=(ao.o.trans T).size;omega) _;have an:=U aE;have a7:=U (Ds l (.cells #[(st:Int),(tn:Int)] 51));have aB:=U (zv V (.cells #[(st:Int),(tn:Int)] 51));have ax:=U (qS ab ((D5 l.heap.size l).alloc Zr (.cells #[(st:Int),(tn:Int)] 51)) Zr);have bF:(l.alloc (.cells #[(st:Int),(tn:Int)] 51)).heap.size=l.heap.size+1:=zA _ _;have aF:=zB V;have aw:=U (Dt aQ aR)
                        clear V ab T aE aQ aR)
  generalize l.alloc (.cells #[(st:Int),(tn:Int)] 51)=W4 at *;obtain⟨⟨aZ,a0⟩,a1⟩:=zG a7.o;obtain⟨⟨_,_,_,_,_,_,_,_,_,_⟩,_⟩:=zD aB.o;have H:=(an.o.block (w.heap.size+1) aM).trans u.o;obtain⟨⟨bp,bq,br,bs,bt⟩,bu⟩:=zi H;have bz:l.heap.size<W4.heap.size:=O
  have bA:W1.heap.size+1+1+1<W4.heap.size:=by show _<_;have aF:W1.heap.size+1+1+1<l.heap.size:=aF;omega
  have bC:w.heap.size+1<W4.heap.size:=zB H;have ba:=U H;clear H;go_wp2_with fail
  go_region
  all_goals
   go_wp2_with fail
  have aH:W1.heap.size+1+1+1≠w.heap.size+1:=O
  have aG:w.heap.size<=W1.heap.size+1+1+1:=O
  have bm:(Value.slice s t.o.length y).ownBlock≠some (W1.heap.size+1+1+1):=uK ax.o (show Is W4 (W1.heap.size+1+1+1) 57 _ from aB.o) Us
  have bn:((W4.setCell (W1.heap.size+1+1+1,5) (st:Int)).setCell (W1.heap.size+1+1+1,6) (tn:Int)).heap[w.heap.size+1]?=some (z0 0 0 (.slice none 0 0) 0 0):=
   (D0 _ ⟨W1.heap.size+1+1+1,6,none⟩ _ _ aH.symm).trans ((D0 _ ⟨W1.heap.size+1+1+1,5,none⟩ _ _ aH.symm).trans ba.o)
  have bl:C2 w ((W4.setCell (W1.heap.size+1+1+1,5) (st:Int)).setCell (W1.heap.size+1+1+1,6) (tn:Int)):=
   ((D.o.trans (an.o.mono O)).setCell (p:=(W1.heap.size+1+1+1,5)) aG _).setCell (p:=(W1.heap.size+1+1+1,6)) aG _
  have aS:((W4.setCell (W1.heap.size+1+1+1,5) (st:Int)).setCell (W1.heap.size+1+1+1,6) (tn:Int)).ownsRow W1.heap.size 3 1 (.slice s t.o.length y) t.o.length (t.o.map (Value.int .i64)):=
   zR ax.o fun k C=>by
    have aL:k≠W1.heap.size+1+1+1:=fun e=>bm (e▸C);exact(D0 _ ⟨W1.heap.size+1+1+1,6,none⟩ _ k aL).trans (D0 _ ⟨W1.heap.size+1+1+1,5,none⟩ _ k aL)
  generalize(W4.setCell (W1.heap.size+1+1+1,5) (st:Int)).setCell (W1.heap.size+1+1+1,6) (tn:Int)=W7 at *;have R:=iQ bn (.int .i64 st) (.int .i64 tn) (.slice s t.o.length y) (.int .i64 (t.cost:Int)) (.int .i64 (t.fuel:Int));have Q:=vh (g:=w.heap.size+1) bl O (.int .i64 st) (.int .i64 tn) (.slice s t.o.length y) (.int .i64 (t.cost:Int)) (.int .i64 (t.fuel:Int));have bj:=fun k (C:k≠w.heap.size+1)=>l0 W7 C (.int .i64 st) (.int .i64 tn) (.slice s t.o.length y) (.int .i64 (t.cost:Int)) (.int .i64 (t.fuel:Int));obtain⟨⟨af,ag,ah,ai,aj⟩,_⟩:=zi R;refine bodyPost_ret (v:=.agg #[(st:Int),(tn:Int),(s,t.o.length,y),((t.cost:Int):Int),((t.fuel:Int):Int)]) (by simp[results,results7,go_sem,af,ag,ah,ai,aj]) rfl ?_;rw[bb.o];exact⟨_,rfl,⟨(zR aS fun k C=>bj k (by have:=(zU aS k C).2;omega)).mono O,(by show t.o.length<=_;have:=aw.o.1;have:=aw.o.2;omega)⟩,Q.drew⟩
theorem nO(B:Nat)(p:Pr)(b:List Int)(a:Int)(v0 v1 vi:C8)(w:C7)(i:gH B p v0 v1 w)(c:t4 p)(k:k8 B w vi b)(l:fT b)(j:a<=1000000)(m: -9223372036854775808<=a):
 C3 7 #[.agg #[v0,v1],vi,(a:Int)] w fun e w'=>∃v,e=.returned v/\G5 w'.heap.size w' v (vT p b a)/\C2 w w':=
 (V1 B p b a v0 v1 vi w i c c.ln k l j m).mono fun e w' ⟨_,d,f,g⟩=>⟨_,d,f.run,g⟩
end Go.Proofs.YtjadgpiafjdnfaaGreatDoor
namespace Go.Proofs.YtjadgpiafjdnfaaGreatDoor
open Go.RowKit Tryz
variable{s:C6}{p n B L ln:Nat}{r ts:List fH}{t:List UInt8}{w:C7}{v1 v v0 vi:C8}
def zbv:C6:=⟨#[105,110,116,32,109,97,105,110,40,41,32,123,32,112,114,105,110,116,40,54,32,42,32,55,41,59,32,114,101,116,117,114,110,32,49,32,47,32,48,59,32,125]⟩
def zbw:C6:=⟨#[105,110,116,32,102,40,105,110,116,32,110,41,32,123,32,105,102,32,40,110,32,60,32,50,41,32,123,32,114,101,116,117,114,110,32,49,59,32,125,32,114,101,116,117,114,110,32,110,32,42,32,102,40,110,32,45,32,49,41,59,32,125,32,105,110,116,32,109,97,105,110,40,41,32,123,32,114,101,116,117,114,110,32,102,40,114,101,97,100,40,41,41,59,32,125]⟩
def KS:Pr:=(yV zbv).1
def z3:Pr:=(yV zbw).1
theorem zcw:yV zbv=(KS,0,0):=by kernel_rfl
theorem zbx:yV zbw=(z3,0,0):=by kernel_rfl
theorem zdx:vT KS [] 100=(2,0,[42],3,92):=by kernel_rfl
theorem zdy:vT z3 [5] 20=(0,0,[],6,0):=by kernel_rfl
theorem zdz:vT z3 [5] 200=(1,120,[],19,147):=by kernel_rfl
theorem zcx:KS.wa.length=0/\KS.funcs.length=1:=⟨by kernel_rfl,by kernel_rfl⟩
theorem zcy:z3.wa.length=0/\z3.funcs.length=2:=⟨by kernel_rfl,by kernel_rfl⟩
theorem zd0(i:fQ B w)(g:B<=w.heap.size):C3 13 #[.string ⟨#[105,110,116,32,109,97,105,110,40,41,32,123,32,112,114,105,110,116,40,54,32,42,32,55,41,59,32,114,101,116,117,114,110,32,49,32,47,32,48,59,32,125]⟩] w fun x w'=>∃a c b d,x=.returned (.tuple #[.agg #[.slice a 0 c,.slice b 1 d],(0:Int),(0:Int)])/\C2 w w'/\gH w'.heap.size KS (.slice a 0 c) (.slice b 1 d) w':=
 (wQ zbv i g zcw).mono fun x w' ⟨a,c,b,d,e,hb,f⟩=>by rw[zcx.1,zcx.2]at e f;exact⟨a,c,b,d,e,hb,f⟩
theorem zd1(i:fQ B w)(g:B<=w.heap.size):C3 13 #[.string ⟨#[105,110,116,32,102,40,105,110,116,32,110,41,32,123,32,105,102,32,40,110,32,60,32,50,41,32,123,32,114,101,116,117,114,110,32,49,59,32,125,32,114,101,116,117,114,110,32,110,32,42,32,102,40,110,32,45,32,49,41,59,32,125,32,105,110,116,32,109,97,105,110,40,41,32,123,32,114,101,116,117,114,110,32,102,40,114,101,97,100,40,41,41,59,32,125]⟩] w fun x w'=>∃a c b d,x=.returned (.tuple #[.agg #[.slice a 0 c,.slice b 2 d],(0:Int),(0:Int)])/\C2 w w'/\gH w'.heap.size z3 (.slice a 0 c) (.slice b 2 d) w':=
 (wQ zbw i g zbx).mono fun x w' ⟨a,c,b,d,e,hb,f⟩=>by rw[zcy.1,zcy.2]at e f;exact⟨a,c,b,d,e,hb,f⟩
theorem zd2(e:gH B KS v0 v1 w)(f:k8 B w vi [])(g:fT []):C3 7 #[.agg #[v0,v1],vi,(100:Int)] w fun x w'=>∃a b,x=.returned (.agg #[(2:Int),(0:Int),.slice a 1 b,(3:Int),(92:Int)])/\rG w'.heap.size w' (.slice a 1 b) [42]/\C2 w w':=
 (nO B KS [] 100 v0 v1 vi w e (j6 zcw) f g Us Us).mono fun x w' ⟨v,i,⟨_,d,c,_⟩,hb⟩=>by
   rw[zdx]at d c;exact Qz
theorem zd3(e:gH B z3 v0 v1 w)(f:k8 B w vi [5])(g:fT [5]):C3 7 #[.agg #[v0,v1],vi,(200:Int)] w fun x w'=>∃a b,x=.returned (.agg #[(1:Int),(120:Int),.slice a 0 b,(19:Int),(147:Int)])/\rG w'.heap.size w' (.slice a 0 b) []/\C2 w w':=
 (nO B z3 [5] 200 v0 v1 vi w e (j6 zbx) f g Us Us).mono fun x w' ⟨v,i,⟨_,d,c,_⟩,hb⟩=>by
   rw[zdz]at d c;exact Qz
theorem zd4(e:gH B z3 v0 v1 w)(f:k8 B w vi [5])(g:fT [5]):C3 7 #[.agg #[v0,v1],vi,(20:Int)] w fun x w'=>∃a b,x=.returned (.agg #[(0:Int),(0:Int),.slice a 0 b,(6:Int),(0:Int)])/\rG w'.heap.size w' (.slice a 0 b) []/\C2 w w':=
 (nO B z3 [5] 20 v0 v1 vi w e (j6 zbx) f g Us Us).mono fun x w' ⟨v,i,⟨_,d,c,_⟩,hb⟩=>by
   rw[zdy]at d c;exact Qz
theorem MD(B:Nat)(w:C7):k8 B w (.slice none 0 0) []:=⟨xX B w,fun _ n c e=>Kv⟩
theorem ME:fT []:=fun n a=>Xe
theorem H3:fT [5]:=fun n a=>by rw[List.mem_singleton.1 a];exact⟨Us,Us⟩
theorem H4(w:C7):k8 (w.heap.size+1) (w.alloc (.cells #[(5:Int)] 3)) (.slice (some ⟨w.heap.size,0,none⟩) 1 1) [5]:=
 ⟨CV (l:=[5]) (T:=3) (fr:=(0,0)) (Ds w _) (Nat.lt_succ_self _) Us 1,fun _ n c e=>Kv⟩
theorem KT{a b d e:Int}:C2 w (w.alloc (z0 a b v d e))/\(w.alloc (z0 a b v d e)).heap[w.heap.size]?=some (z0 a b v d e)/\(w.alloc (z0 a b v d e)).heap.size=w.heap.size+1:=
 ⟨Zb.alloc Zr _,Ds w _,zA _ _⟩
theorem KU(B:Nat)(w:C7)(S:fQ B w)(Q:B<=w.heap.size):C3 5 #[] w (Cz true w):=by
 have K:=U S;clear S;go_enter func5,ntmps5
 go_upto_region 2 with(go_at_call 13;(with_reducible refine(zd0 K.o Q).mono ?_);rintro e F ⟨T,aH,V,aI,rfl,hb,u⟩
                       obtain⟨f,g,j,x⟩:=u.box;have af:=U x;have aE:=U g;have Y:=U (hb.trans (f.mono hb.size));have aW:w.heap.size<=F.heap.size:=hb.size;have z:=j
                       clear hb u f g j x)
 generalize F.alloc (qd T 0 aH V 1 aI)=W1 at *;have aX:=Dx z;have aY:=Dx z.symm;clear z;obtain⟨⟨q,r⟩,s⟩:=zG aE.o;have aT:F.heap.size<W1.heap.size:=O
 go_upto_region 3 with(go_at_call 7;(with_reducible refine(zd2 af.o (MD _ _) ME).mono ?_);rintro e k ⟨Ar,M,rfl,R,hb⟩
                       obtain⟨f,g,j⟩:=KT (w:=k) (a:=2) (b:=0) (d:=3) (e:=92) (v:=.slice Ar 1 M);have ax:=U (R.below f Zr);have ap:=U g;have aZ:W1.heap.size<=k.heap.size:=hb.size;have I:=U ((Y.o.trans (hb.mono O)).trans (f.mono O));have A:=j
                       clear hb R f g j)
 generalize k.alloc (z0 2 0 (.slice Ar 1 M) 3 92)=W2 at *;have a0:=Dx A;have a1:=Dx A.symm;clear A q r s;have aD:=U (K.o.below (I.o.mono Q))
 go_upto_region 4 with(go_at_call 13;(with_reducible refine(zd1 aD.o O).mono ?_);rintro e l ⟨W,aJ,X,aK,rfl,hb,u⟩
                       obtain⟨f,g,j,x⟩:=u.box;have ag:=U x;have L:=U g;have aM:W2.heap.size<=l.heap.size:=hb.size;have c:=hb.trans (f.mono aM);have Z:=U (I.o.trans (c.mono O));have ay:=U (ax.o.below (c.mono O) Zr);have aq:=U ((c.block k.heap.size O).trans ap.o);have C:=j
                       clear hb u f g j x c)
 generalize l.alloc (qd W 0 aJ X 2 aK)=W3 at *;have a2:=Dx C;have a3:=Dx C.symm;clear C;obtain⟨⟨q,r⟩,s⟩:=zG L.o;have aU:l.heap.size<W3.heap.size:=O
 have m:C2 W3 (W3.alloc (.cells #[(5:Int)] 3)):=Zb.alloc Zr _;have aj:=U (H4 W3);have J:=U ((ag.o.below (m.mono O)).mono (show l.heap.size<=W3.heap.size+1 by omega) (by rw[zA];exact Dz _));have aa:=U (Z.o.trans (m.mono O));have aF:=U ((m.block l.heap.size O).trans L.o);have az:=U (ay.o.below (m.mono O) Zr);have ar:=U ((m.block k.heap.size O).trans aq.o);have aN:(W3.alloc (.cells #[(5:Int)] 3)).heap.size=W3.heap.size+1:=zA _ _;clear m
 go_upto_region 5 with(go_at_call 7;(with_reducible refine(zd3 J.o aj.o H3).mono ?_);rintro e p ⟨G,N,rfl,_,hb⟩
                       obtain⟨f,g,j⟩:=KT (w:=p) (a:=1) (b:=120) (d:=19) (e:=147) (v:=.slice G 0 N);have a4:W3.heap.size+1<=p.heap.size:=(by have:=hb.size;omega);have c:=hb.trans (f.mono O);have aG:=U ((c.block l.heap.size O).trans aF.o);have aA:=U (az.o.below (c.mono O) Zr);have au:=U ((c.block k.heap.size O).trans ar.o);have am:=U g;have ah:=U (J.o.below (c.mono O));have ab:=U (aa.o.trans (c.mono O));have D:=j
                       clear hb f g j c)
 generalize p.alloc (z0 1 120 (.slice G 0 N) 19 147)=W5 at *;have a5:=Dx D;have a6:=Dx D.symm;clear D q r s aN;obtain⟨⟨q,r⟩,s⟩:=zG aG.o;have aV:l.heap.size<W5.heap.size:=O
 have n:C2 W5 (W5.alloc (.cells #[(5:Int)] 3)):=Zb.alloc Zr _;have ak:=U (H4 W5);have ai:=U ((ah.o.below (n.mono O)).mono (show W3.heap.size+1<=W5.heap.size+1 by omega) (by rw[zA];exact Dz _));have ad:=U (ab.o.trans (n.mono O));have aB:=U (aA.o.below (n.mono O) Zr);have av:=U ((n.block k.heap.size O).trans au.o);have an:=U ((n.block p.heap.size O).trans am.o);have a7:(W5.alloc (.cells #[(5:Int)] 3)).heap.size=W5.heap.size+1:=zA _ _;clear n
 go_upto_region 6 with(go_at_call 7;(with_reducible refine(zd4 ai.o ak.o H3).mono ?_);rintro e y ⟨H,P,rfl,_,hb⟩
                       obtain⟨f,g,j⟩:=KT (w:=y) (a:=0) (b:=0) (d:=6) (e:=0) (v:=.slice H 0 P);have a8:W5.heap.size+1<=y.heap.size:=(by have:=hb.size;omega);have c:=hb.trans (f.mono O);have aC:=U (aB.o.below (c.mono O) Zr);have aw:=U ((c.block k.heap.size O).trans av.o);have ao:=U ((c.block p.heap.size O).trans an.o);have al:=U g;have ae:=U (ad.o.trans (c.mono O));have E:=j
                       clear hb f g j c)
 generalize y.alloc (z0 0 0 (.slice H 0 P) 6 0)=W7 at *;have a9:=Dx E;have ba:=Dx E.symm;clear E q r s;obtain⟨⟨_,_,_,_,_⟩,_⟩:=zi aw.o;obtain⟨⟨_,_,_,_,_⟩,_⟩:=zi ao.o;obtain⟨⟨_,_,_,_,_⟩,_⟩:=zi al.o;obtain⟨aL,or,rfl,_,aO⟩:=aC.o.cells (i:=0) (t:=42) rfl;rw[Nat.add_zero]at aO;have aS:k.heap.size<W7.heap.size:=O
 have aR:p.heap.size<W7.heap.size:=O
 have aQ:y.heap.size<W7.heap.size:=O
 have aP:aL<W7.heap.size:=O
 go_wp2_with fail;go_ret;exact⟨rfl,ae.o⟩
