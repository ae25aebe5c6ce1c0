import Derived.Test.YthcmenajdcbnnaaGreatDoorAlParPg
import Derived.Lib.IndexBytes
set_option linter.unusedSimpArgs false
set_option linter.unusedVariables false
set_option maxRecDepth 100000
set_option maxHeartbeats 99000000
namespace Go.Proofs.YthcmenajdcbnnaaGreatDoor
open Go.RowKit Tryz
theorem Qy{p:Prop}(h:p:=by
 go_meet
 exact⟨rfl,rfl,_,_,m.o,i.o,Ds a _,Zb.alloc Zr _⟩):p:=h
theorem Qz{p:Prop}(h:p:=by
 refine⟨?_,World.block_lt_of_cell? c ⟨g,k*3+2,none⟩ M,?_⟩
 .obtain⟨_,⟨_,_,ae,_,_⟩,_⟩:=l
  injection ae with j _ _;injection j with j;injection j with j _ _;omega
 .obtain⟨_,_⟩:=x.o
  have d:=(zT x.o g rfl).2;simp at d
  omega):p:=h
theorem Ua{p:Prop}(h:p:=by
 obtain⟨a,b,rfl,_⟩:=c.form
 exact⟨a,b,by rw[i,d];rfl,c,hb⟩):p:=h
theorem Ub{p:Prop}(h:p:=by
 have a:jm d.heap.size (.slice g ts.length j) ts (kX ts).un b:=k.st;rw[D.o]at a
 exact a):p:=h
theorem Uc{p:Prop}(h:p:=by
 have d:jm b.heap.size (.slice n ts.length y) ts (kX ts).un c:=A.st;rw[F.o]at d
 exact d):p:=h
theorem Ud{p:Prop}(h:p:=by
 have:=(List.getElem?_eq_some_iff.1 hb).1;rw[Ys,<-Yf]at this
 omega):p:=h
variable{s:C3}{p n B L ln:Nat}{r ts:List fH}{t:List UInt8}{w:C4}{v1 v v0 vi:C5}
theorem nK(s:C3)(k:Nat)(a:k<s.size)(i c:Int)(d:i=k)(b:(s[k].toNat:Int)=c)(w:C4):(Instr.index 9 (.string s) (.int .i64 i)).run Tryz.prog w=.ok (.int .u8 c) w:=by
 subst d;exact uq s k a c b w
theorem nL(s:C3)(p n:Nat)(h:p+n<s.size):(s.data.toList.drop p)[n]?=some s[p+n]:=by
 rw[List.getElem?_drop,vg s (p+n) h]
theorem B5(_:p+n<=s.size)(c:∀(j:Nat) b,j<n->(s.data.toList.drop p)[j]?=some b->qq b=true)(d:∀_:p+n<s.size,qq s[p+n]=false):xN (s.data.toList.drop p)=n:=by
 refine l2 qq _ n (by rw[Ys,<-Yf];omega) c (fun b hb=>?_)
 have a:p+n<s.size:=by
  exact Ud
 rw[nL s p n a]at hb;injection hb with hb;exact hb▸d a
theorem PU(d:p+n<s.size)(a:∀(j:Nat) b,j<n->(s.data.toList.drop p)[j]?=some b->qq b=true)(c:qq s[p+n]=true):
 ∀(j:Nat) b,j<n+1->(s.data.toList.drop p)[j]?=some b->qq b=true:=by
 intro j b _ hb;by_cases e:j=n
 .subst e
  rw[nL s p j d]at hb;injection hb with hb;exact hb▸c
 .exact a j b O hb
def wN(w:C4)(s:C3)(ov c b:C5)(wr:C4):Prop:=
 ∃(a line:Nat) (ts:List fH),b=.int .i64 a/\c=.int .i64 line/\a<=s.size/\line<=a+1/\ts.length<=a/\uI wr w.heap.size ov ts/\Cy w wr/\
   qF s.data.toList 1=(ts++(qF (s.data.toList.drop a) line).1,(qF (s.data.toList.drop a) line).2)
theorem DZ(s:C3)(w:C4)(a:100000<s.size):Cz 26 #[s] w (Cx (.tuple #[(),(2:Int),(0:Int)]) w):=by
 have b:decide ((100000 :Int)<s.size)=true:=Ug
 clear a;go_enter func26,ntmps26;go_wp2
 go_ret3
 exact⟨rfl,rfl⟩
theorem kj(s:C3)(p:Nat)(h:p<s.size):s.data.toList.drop p=s[p]::s.data.toList.drop (p+1):=by
 rw[List.drop_eq_getElem_cons (by rw[<-Yf];exact h)];rfl
theorem YZ{c:UInt8}{r:List UInt8}(line:Nat)(h:c.toNat=10):qF (c::r) line=qF r (line+1):=by
 rw[qF,Dq (by simp[h])]
theorem U4{c:UInt8}{r:List UInt8}(line:Nat)(a:yW c=true)(b:c.toNat≠10):qF (c::r) line=qF r line:=by
 rw[qF,Dp Up,Dq a]
theorem U5{l:List UInt8}(line:Nat)(h:Lib.hasPrefix l [47,47]=true):qF l line=qF (l.drop (l.takeWhile (fun d=>d.toNat != 10)).length) line:=by
 have:=QF l line;unfold nU at this;rw[Dq h,KM]at this;exact this
section
variable {w wr:C4}{s:C3}{p line:Nat}{ov:C5}{ts:List fH}(hp:p<s.size)(hlp:line<=p+1)(htl:ts.length<=p)(hO:uI wr w.heap.size ov ts)(hb:Cy w wr)
 (hsc:qF s.data.toList 1=(ts++(qF (s.data.toList.drop p) line).1,(qF (s.data.toList.drop p) line).2))
include hp hlp htl hO hb hsc
theorem za6(X:Obj)(a:s[p].toNat=10):wN w s ov (.int .i64 ((line:Int)+1)) (.int .i64 ((p:Int)+1)) (wr.alloc X):=by
 have b:Cy wr (wr.alloc X):=Zb.alloc Zr _;refine⟨p+1,line+1,ts,by go_num,by go_num,hp,O,O,hO.below b,hb.alloc hb.size _,?_⟩;rw[hsc,kj s p hp,YZ line a]
theorem Y0(X:Obj)(a:yW s[p]=true)(b:s[p].toNat≠10):wN w s ov (.int .i64 line) (.int .i64 ((p:Int)+1)) (wr.alloc X):=by
 have c:Cy wr (wr.alloc X):=Zb.alloc Zr _;refine⟨p+1,line,ts,by go_num,rfl,hp,O,O,hO.below c,hb.alloc hb.size _,?_⟩;rw[hsc,kj s p hp,U4 line a b]
omit hp in
theorem Y1(X:Obj)(q:Nat)(c:q<=s.size)(_:p<=q)(a:Lib.hasPrefix (s.data.toList.drop p) [47,47]=true)(e:((s.data.toList.drop p).takeWhile (fun d=>d.toNat != 10)).length=q-p):wN w s ov (.int .i64 line) (.int .i64 (q:Int)) (wr.alloc X):=by
 have b:Cy wr (wr.alloc X):=Zb.alloc Zr _;refine⟨q,line,ts,rfl,rfl,c,O,O,hO.below b,hb.alloc hb.size _,?_⟩;rw[hsc,U5 line a,e,List.drop_drop,show p+(q-p)=q by omega]
end
theorem U6{c:UInt8}(_:(c.toNat:Int)=32\/(c.toNat:Int)=9\/(c.toNat:Int)=13):yW c=true/\c.toNat≠10:=by
 unfold yW;refine⟨?_,O⟩;simp;omega
theorem KF(s:C3)(p:Nat)(c:p+1<s.size)(_:(s[p].toNat:Int)=47)(_:(s[p+1].toNat:Int)=47):Lib.hasPrefix (s.data.toList.drop p) [47,47]=true:=by
 rw[kj s p O,kj s (p+1) c];have a:s[p]=47:=UInt8.toNat_inj.1 (by show s[p].toNat=47;omega);have b:s[p+1]=47:=UInt8.toNat_inj.1 (by show s[p+1].toNat=47;omega);rw[a,b];rfl
theorem HO{q:Nat}(_:p<=q)(_:q<=s.size)(a:∀(j:Nat) b,j<q-p->(s.data.toList.drop p)[j]?=some b->(b.toNat != 10)=true)(c:∀_:q<s.size,s[q].toNat=10):
 ((s.data.toList.drop p).takeWhile (fun d=>d.toNat != 10)).length=q-p:=by
 refine l2 _ _ (q-p) (by rw[Ys,<-Yf];omega) a (fun b hb=>?_)
 have f:p+(q-p)<s.size:=by
  exact Ud
 rw[nL s p (q-p) f]at hb;injection hb with hb;have e:=c O;simp only[show p+(q-p)=q by omega]at hb;rw[<-hb,e];rfl
theorem U7{q:Nat}(_:p<=q)(_:q<s.size)(a:∀(j:Nat) b,j<q-p->(s.data.toList.drop p)[j]?=some b->(b.toNat != 10)=true)(c:s[q].toNat≠10):
 ∀(j:Nat) b,j<q+1-p->(s.data.toList.drop p)[j]?=some b->(b.toNat != 10)=true:=by
 intro j b _ hb;by_cases e:j=q-p
 .subst e
  rw[nL s p (q-p) O]at hb;injection hb with hb;simp only[show p+(q-p)=q by omega]at hb;rw[<-hb];simpa using c
 .exact a j b O hb
theorem PV(hp:p<s.size)(a:xN (s.data.toList.drop p)=n)(_:0<n):qq s[p]=true:=by
 rw[kj s p hp]at a;unfold xN at a;cases h:qq s[p]with
 |true=>rfl
 |false=>
   rw[List.takeWhile_cons_of_neg (by simp[h])]at a;simp at a;omega
theorem U8(s:C3)(p:Nat)(hp:p<s.size)(hb:yW s[p]=false)(f:¬((s[p].toNat:Int)=47/\∃b:p+1<s.size,(s[p+1].toNat:Int)=47)):nU (s.data.toList.drop p)=0:=by
 unfold nU;split
 .rename_i d
  exfalso;obtain⟨r,e⟩:=vH d
  have b:p+1<s.size:=by
   have:=congrArg List.length e;rw[Ys,<-Yf]at this;simp at this;omega
  rw[kj s p hp,kj s (p+1) b]at e;injection e with c a;injection a with a g;exact f ⟨by rw[c];rfl,b,by rw[a];rfl⟩
 .rw[kj s p hp,List.takeWhile_cons_of_neg (by simp[hb])]
  rfl
theorem U9{c:UInt8}(_:(c.toNat:Int)≠10)(_:¬((c.toNat:Int)=32\/(c.toNat:Int)=9\/(c.toNat:Int)=13)):yW c=false:=by
 unfold yW;simp;omega
theorem PW(h:xp t=true):yX t=some 2:=by unfold yX;rw[h];rfl
theorem PY{c:UInt8}(a:xp (c::t)=false)(b:lA c=true):yX (c::t)=if xI (c::t)then some 1 else none:=by
 unfold yX
 have d:xM (c::t)=false:=by
  unfold xM;rw[List.all_cons,lC c b];simp
 rw[a,d];rfl
theorem VA{c:UInt8}(a:xp (c::t)=false)(b:lA c=false):yX (c::t)=if xM (c::t)then some 0 else none:=by
 unfold yX
 have d:xI (c::t)=false:=by
  unfold xI;rw[Cp,b];simp
 rw[a,d];rfl
def Z3(b c a:Bool):Option Int:=if c then some 2 else if b then(if a then some 1 else none)else if a then some 0 else none
theorem VB(hp:p<s.size)(i:xN (s.data.toList.drop p)=n)(_:0<n)(b c f:Bool)(e:uN (s[p].toNat:Int)=b)(d:xp (s.extract p (p+n)).data.toList=c)
 (a:c=false->(if b then xI (s.extract p (p+n)).data.toList else xM (s.extract p (p+n)).data.toList)=f):
 wQ (s.data.toList.drop p)=(Z3 b c f).map fun k=>(k,(s.extract p (p+n)).data.toList):=by
 have g:(s.extract p (p+n)).data.toList=(s.data.toList.drop p).take n:=by rw[Lib.extract_data,show p+n-p=n by omega]
 rw[HK O,i,<-g];congr 1;obtain⟨m,rfl⟩:∃m,n=m+1:=⟨n-1,O⟩
 rw[g,kj s p hp,Y6]at d a ⊢;rw[iT]at e;unfold Z3;cases c with
 |true=>rw[PW d];rfl
 |false=>
   have a:=a rfl;cases b with
   |true=>
     rw[PY d e];rw[Dq rfl]at a;rw[a];rfl
   |false=>
     rw[VA d e];rw[Dp Uh]at a;rw[a];rfl
theorem LY(a:C4)(B:Nat)(v:C5)(ts:List fH)(k:Int)(b:C3)(line:Nat)(hO:uI a B v ts)(d:B<=a.heap.size):
 (a.alloc (.cells #[(k:Int),b,(line:Int)] 57)).ownsRow B 57 3 v ts.length (jR ts)/\
 (∀j c,[Value.int .i64 k,.string b,.int .i64 line][j]?=some c->(a.alloc (.cells #[(k:Int),b,(line:Int)] 57)).cell? ((⟨a.heap.size,0,none⟩:Addr).add j)=some c)/\
 B<=(a.alloc (.cells #[(k:Int),b,(line:Int)] 57)).heap.size:=by
 have hb:Cy a (a.alloc (.cells #[(k:Int),b,(line:Int)] 57)):=Zb.alloc Zr _;refine⟨qS hO hb Zr,fun j c e=>?_,Dy d hb.size⟩;rw[show(⟨a.heap.size,0,none⟩:Addr).add j=⟨a.heap.size,j,none⟩by unfold Addr.add;split<;>simp_all];exact(cell_of_row _ a.heap.size j _ _ (0,0) (Ds a _)).trans Vs
theorem HP(s:C3)(p:Nat)(c:Int)(f:¬(c=47/\∃_:p+1<s.size,(s[p+1].toNat:Int)=47)):
 (c == 47)=false\/(c=47/\decide ((p:Int)+1<s.size)=false)\/(c=47/\∃d:Int,(d == 47)=false/\(p:Int)+1<s.size/\∀w,(Instr.index 9 (.string s) (.int .i64 ((p:Int)+1))).run Tryz.prog w=.ok (.int .u8 d) w):=by
 by_cases a:c=47
 .by_cases b:p+1<s.size
  .refine .inr (.inr ⟨a,_,?_,O,nK s (p+1) b _ _ O rfl⟩)
   simpa using fun e=>f ⟨a,b,e⟩
  .exact .inr (.inl ⟨a,Ug⟩)
 .exact .inl Ur
theorem zcr(a:C4)(B:Nat)(v:C5)(ts:List fH)(k:Int)(b:C3)(line:Nat)(hO:uI a B v ts)(d:B<=a.heap.size):
 ((a.alloc (.cells #[(k:Int),b,(line:Int)] 57)).alloc (.cells #[(k:Int),b,(line:Int)] 57)).ownsRow B 57 3 v ts.length (jR ts)/\
 (∀j c,[Value.int .i64 k,.string b,.int .i64 line][j]?=some c->((a.alloc (.cells #[(k:Int),b,(line:Int)] 57)).alloc (.cells #[(k:Int),b,(line:Int)] 57)).cell? ((⟨a.heap.size+1,0,none⟩:Addr).add j)=some c)/\
 B<=((a.alloc (.cells #[(k:Int),b,(line:Int)] 57)).alloc (.cells #[(k:Int),b,(line:Int)] 57)).heap.size:=by
 have hb:Cy a ((a.alloc (.cells #[(k:Int),b,(line:Int)] 57)).alloc (.cells #[(k:Int),b,(line:Int)] 57)):=
  (Zb.alloc Zr _).alloc Uh _
 refine⟨qS hO hb Zr,fun j c e=>?_,Dy d hb.size⟩;rw[show(⟨a.heap.size+1,0,none⟩:Addr).add j=⟨a.heap.size+1,j,none⟩by unfold Addr.add;split<;>simp_all];exact(cell_of_row _ (a.heap.size+1) j _ _ (0,0) (heap_alloc2_new a _ _)).trans Vs
theorem ZA{wr a:C4}{line:Nat}{ov v1:C5}{X:Obj}(hp:p=s.size)(hb:Cy w wr)(l:qF s.data.toList 1=(ts++(qF (s.data.toList.drop p) line).1,(qF (s.data.toList.drop p) line).2))
 (hO:uI wr w.heap.size ov ts) (j:a.ownsRow w.heap.size 57 3 v1 (ts.length+1) (jR ts++[.int .i64 3,.string ⟨#[]⟩,.int .i64 line])) (f:(wr.alloc X).grownBy a ov.ownBlock):
 xe w s.data.toList (.returned (.tuple #[v1,(0:Int),(0:Int)])) a:=by
 have i:s.data.toList.drop p=[]:=List.drop_eq_nil_of_le (by rw[<-Yf];omega);have e:qF s.data.toList 1=(ts++[⟨3,[],line⟩],none):=by rw[l,i,U3]
 have b:Cy wr (wr.alloc X):=Zb.alloc Zr _;have d:uI (wr.alloc X) w.heap.size ov ts:=hO.below b;have c:=hb.trans (b.mono hb.size);unfold xe;rw[e];refine⟨c.grown f c.size (fun k g=>(zT d k g).2),v1,rfl,?_⟩;unfold uI;rw[lD,Dr];exact j
section
variable {w wr:C4}{s:C3}{p line:Nat}{ov:C5}{ts:List fH}(hp:p<s.size)(hlp:line<=p+1)(htl:ts.length<=p)(hO:uI wr w.heap.size ov ts)(hb:Cy w wr)
 (hsc:qF s.data.toList 1=(ts++(qF (s.data.toList.drop p) line).1,(qF (s.data.toList.drop p) line).2)) (hgap:nU (s.data.toList.drop p)=0)
include hp hlp htl hO hb hsc hgap
theorem ZB{W:C4}(k:Int)(a:C3)(e:wQ (s.data.toList.drop p)=some (k,a.data.toList))(d:Cy wr W)(b:C4)(v1:C5)
 (m:b.ownsRow w.heap.size 57 3 v1 (ts.length+1) (jR ts++[.int .i64 k,.string a,.int .i64 line])) (j:W.grownBy b ov.ownBlock):
 wN w s v1 (.int .i64 line) (.int .i64 ((p:Int)+a.size)) b:=by
 obtain⟨_,f,g⟩:=nJ e;rw[Ys,<-Yf,<-Yf]at g;rw[<-Yf]at f;have c:Cy w W:=hb.trans (d.mono hb.size);have i:uI W w.heap.size ov ts:=hO.below d;refine⟨p+a.size,line,ts++[⟨k,a.data.toList,line⟩],by go_num,rfl,O,O,by rw[Dr];simp;omega,?_,c.grown j c.size (fun k l=>(zT i k l).2),?_⟩
 .unfold uI
  rw[lD,Dr,Lib.mk_data];exact m
 .rw[hsc,U1 hgap e,List.drop_drop,<-Yf]
  simp
omit hlp htl hO in
theorem EA(d:wQ (s.data.toList.drop p)=none)(a:C4)(b:Cy wr a):xe w s.data.toList (.returned (.tuple #[(),(20:Int),((line:Int):Int)])) a:=by
 have c:s.data.toList.drop p≠[]:=by rw[kj s p hp];simp
 have e:qF s.data.toList 1=(ts,some line):=by rw[hsc,U2 hgap c d];simp
 unfold xe;rw[e];exact⟨hb.trans (b.mono hb.size),rfl⟩
end
theorem pY(s:C3)(w:C4)(ap:s.size<=100000):Cz 26 #[s] w (xe w s.data.toList):=by
 have bi:decide ((100000 :Int)<s.size)=false:=Ug
 go_enter func26,ntmps26;go_wp2
 go_loopw [5,6,7] (fun ov aD B wr=>wN w s ov aD B wr) (fun _ _ B _=>s.size-(intOf B).toNat)
 case atStart=>exact⟨0,1,[],rfl,rfl,Dx _,O,Dx _,uI.nil _ _,D4 _ _,rfl⟩
 case round=>
  obtain⟨p,line,ts,rfl,rfl,hp,hlp,htl,hO,hb,aR⟩:=hrel;have G:=U hO;have C:=U aR;clear hO aR;obtain⟨a,rfl⟩:∃a:C4,a=wr:=⟨_,rfl⟩
  by_cases v:p<s.size
  .have a9:(p:Int)<s.size:=by omega
   go_upto_block 2 with fail
   go_cut [9] (fun aE y=>a.alloc (.cells #[(0:Int),.string ⟨#[]⟩,(line:Int)] 57)=y/\∃n:Nat,p+n<=s.size/\aE=.int .i64 n/\xN (s.data.toList.drop p)=n)
   case first=>
    go_wp2_with fail
    go_loopg [9] s.size (fun g aE y=>a.alloc (.cells #[(0:Int),.string ⟨#[]⟩,(line:Int)] 57)=y/\∃n:Nat,p+n<=s.size/\g=s.size-n/\aE=.int .i64 n/\∀(j:Nat) b,j<n->(s.data.toList.drop p)[j]?=some b->qq b=true)
    case atStart=>exact⟨rfl,0,O,rfl,rfl,fun j b av=>absurd av O⟩
    case round=>
     obtain⟨rfl,n,aw,rfl,rfl,R⟩:=hrel;have E:=U R;clear R;by_cases D:p+n<s.size
     .obtain⟨c,J⟩:∃c:Int,(s[p+n].toNat:Int)=c:=⟨_,rfl⟩
      have a2:=nK s (p+n) D ((p:Int)+n) c O J;obtain⟨M,I⟩:=C0 (uN c);obtain⟨N,l⟩:=C0 (g9 c);have aG:Do (qq s[p+n]=(M || N)):=by unfold Do qq;rw[<-I,<-l,<-J,iT,iU]
      have r:=U I;have f:=U l;clear I l J;cases M<;>cases N
      all_goals
       go_wp2_with (first|(go_at_call 47;(with_reducible refine(jX _ _ r.o _).mono ?_);rintro e w' ⟨rfl,rfl⟩)|(go_at_call 48;(with_reducible refine(nW _ _ f.o _).mono ?_);rintro e w' ⟨rfl,rfl⟩))
      .go_meet
       exact⟨rfl,n,aw,rfl,B5 O E.o (fun _=>aG.o)⟩
      all_goals
       go_roundg (s.size-(n+1))
       case measure=>omega
       case rel=>exact⟨rfl,n+1,O,rfl,by go_num,PU D E.o aG.o⟩
     .go_wp2
      go_meet
      exact⟨rfl,n,aw,rfl,B5 O E.o (fun K=>absurd K D)⟩
   case rest=>
    obtain⟨rfl,n,aw,rfl,aS⟩:=hcut;have ao:=U aS;clear aS
    go_upto_block 4 with fail
    go_cut [6,7] (fun aD B y=>aD=.int .i64 line/\B=.int .i64 p/\∃(k:Int) (x:C3),nU (s.data.toList.drop p)=0/\wQ (s.data.toList.drop p)=some (k,x.data.toList)/\Is y a.heap.size 57 #[(k:Int),x,(line:Int)]/\Cy a y)
    case first=>
     obtain⟨c,J⟩:∃c:Int,(s[p].toNat:Int)=c:=⟨_,rfl⟩
     have a2:=nK s p v (p:Int) c rfl J;have z:=U J;clear J;by_cases ae:c=10
     .subst ae
      go_wp2;go_roundw
      case rel=>exact za6 v hlp htl G.o hb C.o _ (by have:=z.o;omega)
      case measure=>simp[intOf];omega
     by_cases ag:c=32\/c=9\/c=13
     .have aF:Do (yW s[p]=true/\s[p].toNat≠10):=U6 (by rw[z.o];exact ag)
      rcases ag with rfl|rfl|rfl
      all_goals
       go_wp2;go_roundw
       case rel=>exact Y0 v hlp htl G.o hb C.o _ aF.o.1 aF.o.2
       case measure=>simp[intOf];omega
     have a4:(c == 10)=false:=by simpa using ae
     have a6:(c == 32)=false:=Ug
     have a7:(c == 9)=false:=Ug
     have a5:(c == 13)=false:=Ug
     by_cases S:c=47/\∃K:p+1<s.size,(s[p+1].toNat:Int)=47
     .obtain⟨rfl,K,aq⟩:=S
      have aO:=nK s (p+1) K ((p:Int)+1) 47 O aq;have bm:(p:Int)+1<s.size:=O
      have aV:=U (KF s p K z.o aq);clear aq ae ag a4 a6 a7 a5
      go_upto_block 5 with fail
      go_cut [7] (fun B y=>a.alloc (.cells #[(0:Int),.string ⟨#[]⟩,(line:Int)] 57)=y/\∃q:Nat,p<q/\q<=s.size/\B=.int .i64 q/\((s.data.toList.drop p).takeWhile (fun d=>d.toNat != 10)).length=q-p)
      case first=>
       go_wp2_with fail
       go_loopg [7] (s.size-p) (fun g B y=>a.alloc (.cells #[(0:Int),.string ⟨#[]⟩,(line:Int)] 57)=y/\∃q:Nat,p<=q/\q<=s.size/\g=s.size-q/\B=.int .i64 q/\∀(j:Nat) b,j<q-p->(s.data.toList.drop p)[j]?=some b->(b.toNat != 10)=true)
       case atStart=>exact⟨rfl,p,D0 _,hp,rfl,rfl,fun j b av=>absurd av O⟩
       case round=>
        obtain⟨rfl,q,ak,P,rfl,rfl,R⟩:=hrel;have E:=U R;clear R;by_cases D:q<s.size
        .obtain⟨d,au⟩:∃d:Int,(s[q].toNat:Int)=d:=⟨_,rfl⟩
         have bl:=nK s q D (q:Int) d rfl au;have al:=U au;clear au;by_cases aM:d=10
         .subst aM
          have a8:p<q:=by
           rcases Cf p q with ap|ap
           .exact ap
           .obtain rfl:p=q:=by omega
            have bh:=z.o;have aY:=al.o;omega
          go_wp2
          go_meet
          exact⟨rfl,q,a8,P,rfl,HO ak P E.o (fun _=>by have:=al.o;omega)⟩
         .have bj:(d != 10)=true:=by simpa using aM
          go_wp2
          go_roundg (s.size-(q+1))
          case measure=>omega
          case rel=>exact⟨rfl,q+1,O,D,rfl,by go_num,U7 ak D E.o (by have:=al.o;omega)⟩
        .go_wp2
         go_meet
         exact⟨rfl,q,O,P,rfl,HO ak P E.o (fun K=>absurd K D)⟩
      case rest=>
       obtain⟨rfl,q,ak,P,rfl,aU⟩:=hcut;have aX:=U aU;clear aU;go_wp2;go_roundw
       case rel=>exact Y1 hlp htl G.o hb C.o _ q P O aV.o aX.o
       case measure=>simp[intOf];omega
     .have m:=U (U8 s p v (U9 (by rw[z.o];exact ae) (by rw[z.o];exact ag)) (by rw[z.o];exact S))
      by_cases ab:0<n
      .have aP:(c == 47)=false:=by
        have ad:=PV v ao.o ab;rw[Cl];intro e;have aY:=z.o;simp at e;simp[qq,lA,kl]at ad;omega
       obtain⟨M,I⟩:=C0 (uN c);obtain⟨N,l⟩:=C0 (xp (s.extract p (p+n)).data.toList);obtain⟨aL,ar⟩:∃b,(N=false->(if M then xI (s.extract p (p+n)).data.toList else xM (s.extract p (p+n)).data.toList)=b):=⟨_,fun _=>rfl⟩
       have i:=U (VB v ao.o ab M N aL (by rw[z.o];exact I) l ar);have r:=U I;have f:=U l;have aa:=U ar;have Q:Do ((s.extract p (p+n)).size=n):=by unfold Do;rw[Yf,Lib.extract_data,Yg,Ys,<-Yf];omega
       have aJ:Do (0<(s.extract p (p+n)).size):=by unfold Do;rw[Q.o];exact ab
       have aK:Do ((s.extract p (p+n)).size<=281474976710656):=by unfold Do;rw[Q.o];omega
       have ba:(s.extract p (p+n)).size<=100000:=by rw[Q.o];omega
       clear I l ar S;cases M<;>cases N<;>cases aL
       .have F:Do (xM (s.extract p (p+n)).data.toList=false):=aa.o rfl
        go_wp2_with (first|(go_at_call 47;(with_reducible refine(jX _ _ r.o _).mono ?_);rintro e w' ⟨rfl,rfl⟩)|(go_at_call 49;(with_reducible refine(xO _ _ f.o _).mono ?_);rintro e w' ⟨rfl,rfl⟩)|(go_at_call 51;(with_reducible refine(o9 _ _ aJ.o aK.o _ F.o).mono ?_);rintro e w' ⟨rfl,rfl⟩))
        go_ret3
        exact EA v hb C.o m.o i.o _ (Zb.alloc Zr _)
       .have F:Do (xM (s.extract p (p+n)).data.toList=true):=aa.o rfl
        go_wp2_with (first|(go_at_call 47;(with_reducible refine(jX _ _ r.o _).mono ?_);rintro e w' ⟨rfl,rfl⟩)|(go_at_call 49;(with_reducible refine(xO _ _ f.o _).mono ?_);rintro e w' ⟨rfl,rfl⟩)|(go_at_call 51;(with_reducible refine(o9 _ _ aJ.o aK.o _ F.o).mono ?_);rintro e w' ⟨rfl,rfl⟩));exact Qy
       .go_wp2_with (first|(go_at_call 47;(with_reducible refine(jX _ _ r.o _).mono ?_);rintro e w' ⟨rfl,rfl⟩)|(go_at_call 49;(with_reducible refine(xO _ _ f.o _).mono ?_);rintro e w' ⟨rfl,rfl⟩))
        exact Qy
       .go_wp2_with (first|(go_at_call 47;(with_reducible refine(jX _ _ r.o _).mono ?_);rintro e w' ⟨rfl,rfl⟩)|(go_at_call 49;(with_reducible refine(xO _ _ f.o _).mono ?_);rintro e w' ⟨rfl,rfl⟩))
        exact Qy
       .have F:Do (xI (s.extract p (p+n)).data.toList=false):=aa.o rfl
        go_wp2_with (first|(go_at_call 47;(with_reducible refine(jX _ _ r.o _).mono ?_);rintro e w' ⟨rfl,rfl⟩)|(go_at_call 49;(with_reducible refine(xO _ _ f.o _).mono ?_);rintro e w' ⟨rfl,rfl⟩)|(go_at_call 50;(with_reducible refine(rU _ _ F.o _).mono ?_);rintro e w' ⟨rfl,rfl⟩))
        go_ret3
        exact EA v hb C.o m.o i.o _ (Zb.alloc Zr _)
       .have F:Do (xI (s.extract p (p+n)).data.toList=true):=aa.o rfl
        go_wp2_with (first|(go_at_call 47;(with_reducible refine(jX _ _ r.o _).mono ?_);rintro e w' ⟨rfl,rfl⟩)|(go_at_call 49;(with_reducible refine(xO _ _ f.o _).mono ?_);rintro e w' ⟨rfl,rfl⟩)|(go_at_call 50;(with_reducible refine(rU _ _ F.o _).mono ?_);rintro e w' ⟨rfl,rfl⟩));exact Qy
       .go_wp2_with (first|(go_at_call 47;(with_reducible refine(jX _ _ r.o _).mono ?_);rintro e w' ⟨rfl,rfl⟩)|(go_at_call 49;(with_reducible refine(xO _ _ f.o _).mono ?_);rintro e w' ⟨rfl,rfl⟩))
        exact Qy
       .go_wp2_with (first|(go_at_call 47;(with_reducible refine(jX _ _ r.o _).mono ?_);rintro e w' ⟨rfl,rfl⟩)|(go_at_call 49;(with_reducible refine(xO _ _ f.o _).mono ?_);rintro e w' ⟨rfl,rfl⟩))
        exact Qy
      .obtain⟨t,az⟩:∃t:C3,(⟨(yA (s.extract p s.size).data.toList).toArray⟩:C3)=t:=⟨_,rfl⟩
       have aI:=U az;have aT:t.data.toList=yA (s.data.toList.drop p):=by rw[<-az,Lib.extract_to_end]
       have a3:n=0:=O
       subst a3;have aH:Do (wQ (s.data.toList.drop p)=if t.data.toList≠[]then some (2,t.data.toList)else none):=by unfold Do;rw[HL ao.o,<-aT]
       clear az aT ab;by_cases aA:t.size=0
       .have ai:=yY t aA
        have a1:t.toList.isEmpty=true:=by rw[Ym,ai];rfl
        have bk:t.toList=[]:=by rw[Ym,ai]
        have i:Do (wQ (s.data.toList.drop p)=none):=by unfold Do;rw[aH.o,ai];rfl
        clear ai aA;have aB:(c == 47)=false\/(c=47/\decide ((p:Int)+1<s.size)=false)\/(c=47/\∃d:Int,(d == 47)=false/\(p:Int)+1<s.size/\∀w,(Instr.index 9 (.string s) (.int .i64 ((p:Int)+1))).run Tryz.prog w=.ok (.int .u8 d) w):=HP s p c S;rcases aB with aP|⟨rfl,ay⟩|⟨rfl,d,a0,ay,aO⟩
        all_goals
         go_wp2_with (go_at_call 52;(with_reducible refine(HN _ _ aI.o _).mono ?_);rintro e L ⟨rfl,l⟩;have u:=U (Is.below (Ds a (.cells #[(0:Int),.string ⟨#[]⟩,(line:Int)] 57)) l Uh);have bb:L.cell? (a.heap.size,0)=some (.int .i64 0):=(u.o.cell 0).trans rfl;have bc:L.cell? (a.heap.size,1)=some (.string ⟨#[]⟩):=(u.o.cell 1).trans rfl;have aZ:=u.o.frozen 0;have f1:=u.o.frozen 1;have f:Do (Cy a L):=(Zb.alloc Zr _).trans (l.mono Uh))
         go_ret3
         exact EA v hb C.o m.o i.o _ ((f.o.setCell (p:=(a.heap.size,0)) Zr _).setCell (p:=(a.heap.size,1)) Zr _)
       .have ax:=jw t O
        have a1:t.toList.isEmpty=false:=by rw[Ym];simpa using ax
        have i:Do (wQ (s.data.toList.drop p)=some (2,t.data.toList)):=by unfold Do;rw[aH.o,Dq ax]
        clear ax aA;have aB:(c == 47)=false\/(c=47/\decide ((p:Int)+1<s.size)=false)\/(c=47/\∃d:Int,(d == 47)=false/\(p:Int)+1<s.size/\∀w,(Instr.index 9 (.string s) (.int .i64 ((p:Int)+1))).run Tryz.prog w=.ok (.int .u8 d) w):=HP s p c S;rcases aB with aP|⟨rfl,ay⟩|⟨rfl,d,a0,ay,aO⟩
        all_goals
         go_wp2_with (go_at_call 52;(with_reducible refine(HN _ _ aI.o _).mono ?_);rintro e L ⟨rfl,l⟩;have u:=U (Is.below (Ds a (.cells #[(0:Int),.string ⟨#[]⟩,(line:Int)] 57)) l Uh);have bb:L.cell? (a.heap.size,0)=some (.int .i64 0):=(u.o.cell 0).trans rfl;have bc:L.cell? (a.heap.size,1)=some (.string ⟨#[]⟩):=(u.o.cell 1).trans rfl;have aZ:=u.o.frozen 0;have f1:=u.o.frozen 1;have f:Do (Cy a L):=(Zb.alloc Zr _).trans (l.mono Uh))
         go_meet
         exact⟨rfl,rfl,2,t,m.o,i.o,(u.o.set 0 _).set 1 _,(f.o.setCell (p:=(a.heap.size,0)) Zr _).setCell (p:=(a.heap.size,1)) Zr _⟩
    case rest=>
     obtain⟨rfl,rfl,k,x,aN,aj,af,ah⟩:=hcut;have m:=U aN;clear aN;have be:wc.cell? (a.heap.size,0)=some (.int .i64 k):=(af.cell 0).trans rfl;have bf:wc.cell? (a.heap.size,1)=some (.string x):=(af.cell 1).trans rfl;have bg:wc.cell? (a.heap.size,2)=some (.int .i64 line):=(af.cell 2).trans rfl
     have ba:x.size<=100000:=by
      have:=(nJ aj).2.2;rw[Ys,<-Yf,<-Yf]at this;omega
     have Q:Do (0<x.size/\p+x.size<=s.size):=by
      have ad:=(nJ aj).2;rw[Ys,<-Yf,<-Yf]at ad;exact⟨ad.1,O⟩
     have i:=U aj;have H:=U (LY wc w.heap.size u5 ts k x line (G.o.below ah) (Dy hb.size ah.size));obtain⟨aC,V,X,Y,Z⟩:=info_parts EQ;have A:=U (Dt V (Dt X (Dt Y Z)));clear aj af V X Y Z;go_wp2_with (at_builtin;refine wpList_append_own _ rfl (.tmp 158) (.tmp 160) _ rfl w.heap.size 57 aC _ 3 32 underlying49 A.o.1 A.o.2.1 A.o.2.2.1 A.o.2.2.2 rfl O u5 ts.length (jR ts) rfl (by exact H.o.1) ⟨wc.heap.size,0,none⟩ 1 1 [.int .i64 k,.string x,.int .i64 line] rfl rfl (by exact H.o.2.1) Um Ul O (by exact H.o.2.2) ?_;intro v1 bd W T _;have an:=U W;have am:=U T;clear W T);go_roundw
     case rel=>exact ZB v hlp htl G.o hb C.o m.o k x i.o (ah.trans (Zb.alloc Zr _ |>.mono ah.size)) _ _ an.o am.o
     case measure=>
      have bn:=Q.o;simp only[intOf];omega
  .have aQ:p=s.size:=by omega
   have a9:decide ((p:Int)<s.size)=false:=Ug
   have H:=U (LY a w.heap.size u5 ts 3 ⟨#[]⟩ line G.o hb.size);obtain⟨aC,V,X,Y,Z⟩:=info_parts EQ;have A:=U (Dt V (Dt X (Dt Y Z)));have aW:=U aQ;clear V X Y Z aQ;go_wp2_with (at_builtin;refine wpList_append_own _ rfl (.tmp 162) (.tmp 165) _ rfl w.heap.size 57 aC _ 3 32 underlying49 A.o.1 A.o.2.1 A.o.2.2.1 A.o.2.2.2 rfl O u5 ts.length (jR ts) rfl (by exact H.o.1) ⟨a.heap.size,0,none⟩ 1 1 [.int .i64 3,.string ⟨#[]⟩,.int .i64 line] rfl rfl (by exact H.o.2.1) Um Ul O (by exact H.o.2.2) ?_;intro v1 bd W T _;have an:=U W;have am:=U T;clear W T)
   go_ret3
   exact ZA aW.o hb C.o G.o an.o am.o
def yw(R:Pr×Int×Nat)(w:C4)(e:Ending)(w':C4):Prop:=
 Cy w w'/\∃v0 v1,e=.returned (.tuple #[.agg #[v0,v1],(R.2.1:Int),((R.2.2:Int):Int)])/\gN w'.heap.size (fW (nS w.heap.size) w') v0 R.1.wa/\gO w'.heap.size (fW (nS w.heap.size) w') v1 R.1.funcs
theorem LZ(B:Nat)(w:C4):gO B w (.slice none 0 0) []:=⟨none,0,rfl,Dx _,fun h=>absurd h Uh⟩
theorem nM{p:Nat->Bool}:∀g o u,fK B (fW p w) g o u->fK B w g o u:=fun _ _ _ h=>(jb h).2
theorem DX.tree{a:Pr}(b:DX L w a v):∃v0 v1,v=.agg #[v0,v1]/\gN w.heap.size w v0 a.wa/\gO w.heap.size w v1 a.funcs:=by
 obtain⟨v0,v1,e,c,d⟩:=b;exact⟨v0,v1,e,c.imp nM,d.imp nM⟩
theorem PZ{b C:Nat}{w':C4}(h:fI b B w w')(_:C<=B)(hb:C<=b):Below C w w':=by
 have g:Below B (gR b w) (gR b w'):=h;exact⟨g.os,g.tape,g.output,h.size,fun k _=>h.block O O⟩
theorem ZC(k:uI w B v ts)(d:qC ts)(n:ts.length<=1000000)(e:∀t∈ts,t.kind=0->xM t.text=true/\t.text.length<=281474976710656):
 jm w.heap.size v ts (.ok () ts) (w.alloc (.cells #[v,(0:Int),.bool false,.bool false] 54)):=by
 rcases k.2 with⟨rfl,a⟩|⟨g,i,_,rfl,_,c,_,_,_,l⟩
 .exact absurd a (by have:=d.pos;omega)
 .have m:g<w.heap.size:=(Array.getElem?_eq_some_iff.1 c).1
  refine⟨?_,⟨g,i,rfl,O,Ug,fun j _ b=>?_,n,fun t f a=>⟨(e t f a).1,?_⟩⟩,List.suffix_refl _,d⟩
  .rw[Yy]
   exact Ds w _
  .rw[Du ((D7 w _ g m).trans c)]
   rw[<-l,Y8]at b;split at b
   .simpa using b
   .cases b
  .rw[Yf]
   exact(e t f a).2
def Rb(w W:C4):Prop:=Cy w W/\W.heap[w.heap.size]?=some uD
theorem Rb.start(w:C4):Rb w (w.alloc uD):=⟨Zb.alloc Zr _,Ds w uD⟩
section
variable {w W W':C4}
theorem Rb.lt(h:Rb w W):w.heap.size<W.heap.size:=(Array.getElem?_eq_some_iff.1 h.2).1
theorem Rb.below(h:Rb w W)(hb:Cy W W'):Rb w W':=⟨h.1.trans (hb.mono h.1.size),(hb.block _ h.lt).trans h.2⟩
theorem Rb.off{b B:Nat}(a:Rb w W)(c:fI b B W W')(d:w.heap.size<B)(hb:w.heap.size<b):Rb w W':=⟨a.1.trans (PZ c O O),jI c d O a.2⟩
theorem Rb.alloc(h:Rb w W)(o:Obj):Rb w (W.alloc o):=h.below (Zb.alloc Zr o)
theorem Rb.drew(h:Rb w W):Rb w W.drew:=h.below Zb.drew
theorem Rb.own(h:Rb w W):(W.cell? (w.heap.size,0)=some (.slice none 0 0)/\W.cell? (w.heap.size,1)=some (.slice none 0 0))/\∀o,W.frozen? ⟨w.heap.size,o,none⟩=false:=ki h.2
theorem Rb.read(c:Rb w W)(a b:C5):((W.setCell (w.heap.size,0) a).setCell (w.heap.size,1) b).cell? (w.heap.size,0)=some a/\((W.setCell (w.heap.size,0) a).setCell (w.heap.size,1) b).cell? (w.heap.size,1)=some b:=(ki (B4 c.2 a b)).1
theorem Rb.fail(a:Rb w W){R:Pr×Int×Nat}(e:Int)(ln:Nat)(b:R=(JJ,e,ln)):yw R w (.returned (.tuple #[.agg #[.slice Option.none 0 0,.slice Option.none 0 0],(e:Int),((ln:Int):Int)])) W:=by
 subst b;exact⟨a.1,_,_,rfl,KP _ _,LZ _ _⟩
theorem Rb.nest(c:Rb w W)(a b:C5):Cy w (uo W w.heap.size a b):=(c.1.setCell (p:=⟨w.heap.size,0,Option.none⟩) Zr _).setCell (p:=⟨w.heap.size,1,Option.none⟩) Zr _
theorem Rb.dk(c:Rb w W){R:Pr×Int×Nat}(e:Int)(ln:Nat)(d:R=(JJ,e,ln))(a b:C5):yw R w (.returned (.tuple #[.agg #[.slice Option.none 0 0,.slice Option.none 0 0],(e:Int),((ln:Int):Int)])) (uo W w.heap.size a b):=by
 subst d;exact⟨c.nest a b,_,_,rfl,KP _ _,LZ _ _⟩
theorem DX.keep{L b:Nat}{a:Pr}{v:C5}(d:DX L W a v)(k:zL L W W')(c:b<=L):DX b W' a v:=by
 obtain⟨v0,v1,g,e,f⟩:=d;exact⟨v0,v1,g,e.imp (k.cells c),f.imp (k.cells c)⟩
theorem Rb.give(c:Rb w W){R:Pr×Int×Nat}{p:Pr}{v0 v1:C5}(i:R=(p,0,0)){L:Nat}(f:DX L W p (.agg #[v0,v1]))(a:w.heap.size<L):yw R w (.returned (.tuple #[.agg #[v0,v1],(0:Int),(((0 :Nat):Int):Int)])) (uo W w.heap.size v0 v1):=by
 subst i;obtain⟨u0,u1,b,d,e⟩:=f.keep (zL.nest2 (g:=w.heap.size) a v0 v1) (D9 a);simp only[Value.agg.injEq,Array.mk.injEq,Cb,and_true]at b;obtain⟨rfl,rfl⟩:=b;exact⟨c.nest _ _,_,_,rfl,d,e⟩
end
theorem HQ(s:C3)(w:C4)(a:100000<s.size):Cz 13 #[s] w (yw (yQ s) w):=by
 rw[oV a];have c:=U a;have b:=U (Rb.start w);clear a;go_enter func13,ntmps13;go_wp2_with (go_at_call 26;(with_reducible refine(DZ s _ c.o).mono ?_);rintro e _ ⟨rfl,rfl⟩);obtain⟨⟨d,f⟩,_⟩:=b.o.own;refine bodyPost_ret (v:=.tuple #[.agg #[(),()],(2:Int),(((0 :Nat):Int):Int)]) (by simp[results,results13,go_sem,d,f]) rfl ?_;exact b.o.fail 2 0 rfl
theorem KG(s:C3)(w:C4)(a:s.size<=100000)(b:(qF s.data.toList 1).2=some ln):Cz 26 #[s] w (Cw (.tuple #[(),(20:Int),((ln:Int):Int)]) w):=
 (pY s w a).mono fun e w' hp=>by
   unfold xe at hp;rw[b]at hp;exact⟨hp.2,hp.1⟩
theorem uE(s:C3)(w:C4)(a:s.size<=100000)(f:qF s.data.toList 1=(ts,none)):Cz 26 #[s] w fun e w'=>∃v,e=.returned (.tuple #[v,(0:Int),(0:Int)])/\uI w' w.heap.size v ts/\Cy w w':=
 (pY s w a).mono fun e w' hp=>by
   unfold xe at hp;rw[f]at hp;obtain⟨b,v,c,d⟩:=hp;exact⟨v,c,d,b⟩
theorem P0(s:C3)(w:C4)(b:s.size<=100000)(c:(qF s.data.toList 1).2=some ln):Cz 13 #[s] w (yw (yQ s) w):=by
 rw[DN b c];have d:=U b;have f:=U c;have a:=U (Rb.start w);clear b c;go_enter func13,ntmps13
 go_wp2_with (go_at_call 26;(with_reducible refine(KG s _ d.o f.o).mono ?_);rintro e _ ⟨rfl,hb⟩
              replace a:=U (a.o.below hb);obtain⟨⟨g,i⟩,_⟩:=a.o.own
              clear hb)
 refine bodyPost_ret (v:=.tuple #[.agg #[(),()],(20:Int),((ln:Int):Int)]) (by simp[results,results13,go_sem,g,i]) rfl ?_;exact a.o.dk 20 ln rfl _ _
theorem EB{W:C4}(e:uI W B v ts)(c:qF s.data.toList 1=(ts,none))(_:s.size<=100000):jm W.heap.size v ts (.ok () ts) (W.alloc (.cells #[v,(0:Int),.bool false,.bool false] 54)):=by
 have f:s.size=s.data.toList.length:=rfl;obtain⟨b,_⟩:=uj _ _ _ _ Zr c;exact ZC e (kK _ _ _ _ Zr c) O fun t d a=>⟨(b t d a).1,by have:=(b t d a).2;omega⟩
theorem j5(h:uI w B v ts):∃A c,v=.slice A ts.length c:=zY h
theorem HR{W:C4}{p:Pr}{c:Bool}{o:Obj}(b:DX L W p (.agg #[v0,v1]))(g:f5 p=c):Cz 28 #[.agg #[v0,v1]] (W.alloc o) fun e w'=>e=.returned (.bool c)/\Below (W.alloc o).heap.size (W.alloc o) w':=by
 obtain⟨u0,u1,a,d,f⟩:=(b.keep (zL.wb (L:=L) (Zb.alloc Zr o)) Zr).tree;simp only[Value.agg.injEq,Array.mk.injEq,Cb,and_true]at a;obtain⟨rfl,rfl⟩:=a;exact zAm _ p c g _ _ _ Zr d f
theorem P3(s:C3)(w:C4)(H:s.size<=100000)(F:qF s.data.toList 1=(ts,none)){p:Pr}(hp:kX ts=.ok p r):Cz 13 #[s] w (yw (yQ s) w):=by
 obtain⟨c,I⟩:=C0 (f5 p)
 have Q:yQ s=if c=true then(p,0,0)else(JJ,2,0):=by
  rw[iN H F];unfold JK;rw[hp,<-I]
 have K:=C2 (zI ((PR.ok () ts).bind fun _ r=>k4 (20*ts.length+40) ⟨[],[]⟩ r)) (y6 (kK _ _ _ _ Zr F));have D:=U hp;have J:=U I;have C:=U H;have E:=U F;have f:=U (Rb.start w);have M:=U Q;clear H F hp I Q;cases c
 case false=>
  go_enter func13,ntmps13
  go_wp2_with (first
   | (go_at_call 26;(with_reducible refine(uE s _ C.o E.o).mono ?_);rintro e d ⟨v,rfl,l,hb⟩
      obtain⟨g,j,rfl⟩:=j5 l;have G:=U l;replace f:=U (f.o.below hb)
      clear hb l)
   | (go_at_call 27;(with_reducible refine(nH (EB G.o E.o C.o) K.o).mono ?_);rintro e b ⟨v,rfl,k,z⟩
      have m:zc d.heap.size (.slice g ts.length j) ts r false false b:=by
       exact Ub
      have i:=U (show DX (d.alloc (.cells #[(g,ts.length,j),(0:Int),.bool false,.bool false] 54)).heap.size b p v by
       have a:ja (kX ts) _:=z;rw[D.o]at a
       exact a)
      obtain⟨v0,v1,rfl,x,y⟩:=i.o;obtain⟨q,A,rfl,_⟩:=x.form;obtain⟨t,B,rfl,_⟩:=y.form;obtain⟨R,S,T,V⟩:=m.cells;have Z:=f.o.lt;have u:=U ((f.o.alloc _).off k.off Ug O);have Y:d.heap.size<b.heap.size:=m.lt;have aa:=u.o.lt
      clear k z m x y)
   | (go_at_call 28;(with_reducible refine(HR i.o J.o).mono ?_);rintro e af ⟨rfl,hb⟩
      have L:=U (i.o.keep ((zL.wb (Zb.alloc Zr _)).trans (zL.wb hb)) Zr);have n:=U ((u.o.alloc _).below hb);obtain⟨⟨ab,ad⟩,ae⟩:=ki ((hb.block _ Uh).trans (Ds b (.cells #[(q,p.wa.length,A),(t,p.funcs.length,B)] 27)));obtain⟨⟨N,P⟩,X⟩:=n.o.own
      clear hb))
  refine bodyPost_ret (v:=.tuple #[.agg #[(),()],(2:Int),(((0 :Nat):Int):Int)]) (by simp[results,results13,go_sem,N,P]) rfl ?_;exact n.o.dk 2 0 (by rw[M.o];rfl) _ _
 case true=>
  go_enter func13,ntmps13
  go_wp2_with (first
   | (go_at_call 26;(with_reducible refine(uE s _ C.o E.o).mono ?_);rintro e d ⟨v,rfl,l,hb⟩
      obtain⟨g,j,rfl⟩:=j5 l;have G:=U l;replace f:=U (f.o.below hb)
      clear hb l)
   | (go_at_call 27;(with_reducible refine(nH (EB G.o E.o C.o) K.o).mono ?_);rintro e b ⟨v,rfl,k,z⟩
      have m:zc d.heap.size (.slice g ts.length j) ts r false false b:=by
       exact Ub
      have i:=U (show DX (d.alloc (.cells #[(g,ts.length,j),(0:Int),.bool false,.bool false] 54)).heap.size b p v by
       have a:ja (kX ts) _:=z;rw[D.o]at a
       exact a)
      obtain⟨v0,v1,rfl,x,y⟩:=i.o;obtain⟨q,A,rfl,_⟩:=x.form;obtain⟨t,B,rfl,_⟩:=y.form;obtain⟨R,S,T,V⟩:=m.cells;have Z:=f.o.lt;have u:=U ((f.o.alloc _).off k.off Ug O);have Y:d.heap.size<b.heap.size:=m.lt;have aa:=u.o.lt
      clear k z m x y)
   | (go_at_call 28;(with_reducible refine(HR i.o J.o).mono ?_);rintro e af ⟨rfl,hb⟩
      have L:=U (i.o.keep ((zL.wb (Zb.alloc Zr _)).trans (zL.wb hb)) Zr);have n:=U ((u.o.alloc _).below hb);obtain⟨⟨ab,ad⟩,ae⟩:=ki ((hb.block _ Uh).trans (Ds b (.cells #[(q,p.wa.length,A),(t,p.funcs.length,B)] 27)));obtain⟨⟨N,P⟩,X⟩:=n.o.own
      clear hb))
  obtain⟨W,f1⟩:=n.o.read (.slice q p.wa.length A) (.slice t p.funcs.length B);refine bodyPost_ret (v:=.tuple #[.agg #[(q,p.wa.length,A),(t,p.funcs.length,B)],(0:Int),(((0 :Nat):Int):Int)]) (by simp[results,results13,go_sem,W,f1]) rfl ?_;exact n.o.give (by rw[M.o];rfl) L.o Ug
theorem KH(s:C3)(w:C4)(z:s.size<=100000)(m:qF s.data.toList 1=(ts,none))(hp:kX ts=.bad r):Cz 13 #[s] w (yw (yQ s) w):=by
 have K:yQ s=(JJ,20,VW r):=by
  rw[iN z m];unfold JK;rw[hp]
 have N:=C2 (zI ((PR.ok () ts).bind fun _ r=>k4 (20*ts.length+40) ⟨[],[]⟩ r)) (y6 (kK _ _ _ _ Zr m));have F:=U hp;have E:=U z;have G:=U m;have f:=U (Rb.start w);have Q:=U K;clear z m hp K;go_enter func13,ntmps13
 go_wp2_with (first
  | (go_at_call 26;(with_reducible refine(uE s _ E.o G.o).mono ?_);rintro e b ⟨v,rfl,B,hb⟩
     obtain⟨n,y,rfl⟩:=j5 B;have x:=U B;replace f:=U (f.o.below hb)
     clear hb B)
  | (go_at_call 27;(with_reducible refine(nH (EB x.o G.o E.o) N.o).mono ?_);rintro e c ⟨v,rfl,A,J⟩
     have l:zc b.heap.size (.slice n ts.length y) ts r true false c:=by
      exact Uc
     have V:∃a,DX (b.alloc (.cells #[(n,ts.length,y),(0:Int),.bool false,.bool false] 54)).heap.size c a v:=by
      have d:ja (kX ts) _:=J;rw[F.o]at d;exact d
     obtain⟨a,v0,v1,rfl,H,I⟩:=V;obtain⟨p,C,rfl,_⟩:=H.form;obtain⟨u,D,rfl,_⟩:=I.form;obtain⟨g,_,k,t,q,W,L,ad,_,_,_,R,_,_,_,_,M⟩:=l.tok;injection W with X _ Y;subst X Y
     have Z:g≠b.heap.size/\g<c.heap.size/\g≠w.heap.size:=by
      exact Qz
     obtain⟨_,aa,ab⟩:=Z;have af:w.heap.size≠g:=fun e=>ab e.symm
     have P:=U (show(t.line:Int)=(VW r:Int)by rw[L];rfl);have ai:=f.o.lt;have i:=U (((f.o.alloc _).off A.off Ug O).alloc (.cells #[(p,a.wa.length,C),(u,a.funcs.length,D)] 27));obtain⟨⟨_,_⟩,_⟩:=i.o.own;have T:b.heap.size<c.heap.size:=l.lt;have ag:(k:Int)<ts.length:=O
     have aj:=i.o.lt;have ah:w.heap.size≠b.heap.size:=O
     clear A J l H I L ad))
 have ak:(c.alloc (.cells #[(p,a.wa.length,C),(u,a.funcs.length,D)] 27)).cell? (b.heap.size,1)=some (.int .i64 (k:Int)):=Gz
 have al:(c.alloc (.cells #[(p,a.wa.length,C),(u,a.funcs.length,D)] 27)).cell? (g,k*3+2)=some (.int .i64 (t.line:Int)):=Gy
 go_region_held3 (fun w'=>w'.cell? (b.heap.size,1)=some (.int .i64 (k:Int))/\w'.cell? (g,k*3+2)=some (.int .i64 (t.line:Int)))
  (go_keep)
  (fail)
 all_goals
  go_wp2_with fail;obtain⟨S,f1⟩:=i.o.read (.slice none 0 0) (.slice none 0 0);refine bodyPost_ret (v:=.tuple #[.agg #[(),()],(20:Int),(((VW r:Nat):Int):Int)]) (by rw[<-P.o];simp[results,results13,go_sem,S,f1]) rfl ?_;exact i.o.drew.dk 20 (VW r) Q.o _ _
theorem HS(s:C3)(w:C4)(z:s.size<=100000)(m:qF s.data.toList 1=(ts,none))(hp:kX ts=.deep r):Cz 13 #[s] w (yw (yQ s) w):=by
 have K:yQ s=(JJ,2,VW r):=by
  rw[iN z m];unfold JK;rw[hp]
 have N:=C2 (zI ((PR.ok () ts).bind fun _ r=>k4 (20*ts.length+40) ⟨[],[]⟩ r)) (y6 (kK _ _ _ _ Zr m));have F:=U hp;have E:=U z;have G:=U m;have f:=U (Rb.start w);have Q:=U K;clear z m hp K;go_enter func13,ntmps13
 go_wp2_with (first
  | (go_at_call 26;(with_reducible refine(uE s _ E.o G.o).mono ?_);rintro e b ⟨v,rfl,B,hb⟩
     obtain⟨n,y,rfl⟩:=j5 B;have x:=U B;replace f:=U (f.o.below hb)
     clear hb B)
  | (go_at_call 27;(with_reducible refine(nH (EB x.o G.o E.o) N.o).mono ?_);rintro e c ⟨v,rfl,A,J⟩
     have l:zc b.heap.size (.slice n ts.length y) ts r false true c:=by
      exact Uc
     have V:∃a,DX (b.alloc (.cells #[(n,ts.length,y),(0:Int),.bool false,.bool false] 54)).heap.size c a v:=by
      have d:ja (kX ts) _:=J;rw[F.o]at d;exact d
     obtain⟨a,v0,v1,rfl,H,I⟩:=V;obtain⟨p,C,rfl,_⟩:=H.form;obtain⟨u,D,rfl,_⟩:=I.form;obtain⟨g,_,k,t,q,W,L,ad,_,_,_,R,_,_,_,_,M⟩:=l.tok;injection W with X _ Y;subst X Y
     have Z:g≠b.heap.size/\g<c.heap.size/\g≠w.heap.size:=by
      exact Qz
     obtain⟨_,aa,ab⟩:=Z;have af:w.heap.size≠g:=fun e=>ab e.symm
     have P:=U (show(t.line:Int)=(VW r:Int)by rw[L];rfl);have ai:=f.o.lt;have i:=U (((f.o.alloc _).off A.off Ug O).alloc (.cells #[(p,a.wa.length,C),(u,a.funcs.length,D)] 27));obtain⟨⟨_,_⟩,_⟩:=i.o.own;have T:b.heap.size<c.heap.size:=l.lt;have ag:(k:Int)<ts.length:=O
     have aj:=i.o.lt;have ah:w.heap.size≠b.heap.size:=O
     clear A J l H I L ad))
 have ak:(c.alloc (.cells #[(p,a.wa.length,C),(u,a.funcs.length,D)] 27)).cell? (b.heap.size,1)=some (.int .i64 (k:Int)):=Gz
 have al:(c.alloc (.cells #[(p,a.wa.length,C),(u,a.funcs.length,D)] 27)).cell? (g,k*3+2)=some (.int .i64 (t.line:Int)):=Gy
 go_region_held3 (fun w'=>w'.cell? (b.heap.size,1)=some (.int .i64 (k:Int))/\w'.cell? (g,k*3+2)=some (.int .i64 (t.line:Int)))
  (go_keep)
  (fail)
 all_goals
  go_wp2_with fail;obtain⟨S,f1⟩:=i.o.read (.slice none 0 0) (.slice none 0 0);refine bodyPost_ret (v:=.tuple #[.agg #[(),()],(2:Int),(((VW r:Nat):Int):Int)]) (by rw[<-P.o];simp[results,results13,go_sem,S,f1]) rfl ?_;exact i.o.drew.dk 2 (VW r) Q.o _ _
theorem wO(s:C3)(w:C4):Cz 13 #[s] w (yw (yQ s) w):=by
 by_cases c:100000<s.size
 .exact HQ s w c
 .cases hs:(qF s.data.toList 1).2 with
  |some ln=>exact P0 s w O hs
  |none=>
    have a:=oW hs;cases hp:kX (qF s.data.toList 1).1 with
    |ok p r=>exact P3 s w O a hp
    |bad r=>exact KH s w O a hp
    |deep r=>exact HS s w O a hp
    |o=>
      have b:=y6 (kK _ _ _ _ Zr a);rw[hp]at b;exact absurd b id
structure gH (B:Nat) (p:Pr) (v0 v1:C5) (w:C4):Prop where
 hB:B<=w.heap.size
 tab:fO B w
 ha:gN B w v0 p.wa
 hf:gO B w v1 p.funcs
theorem gH.below{p:Pr}{w':C4}(h:gH B p v0 v1 w)(hb:Cy w w'):gH B p v0 v1 w':=⟨Dy h.hB hb.size,h.tab.below (hb.mono h.hB),h.ha.below (hb.mono h.hB) Zr,h.hf.below (hb.mono h.hB) Zr⟩
theorem gH.mono{a:Nat}{p:Pr}(b:gH B p v0 v1 w)(c:B<=a)(d:a<=w.heap.size):gH a p v0 v1 w:=⟨d,b.tab.mono c,b.ha.below Zb c,b.hf.below Zb c⟩
theorem VC{p:Pr}(c:DX L w p (.agg #[v0,v1])):gN w.heap.size w v0 p.wa/\gO w.heap.size w v1 p.funcs:=by
 obtain⟨u0,u1,b,d,e⟩:=c;simp only[Value.agg.injEq,Array.mk.injEq,Cb,and_true]at b;obtain⟨rfl,rfl⟩:=b;exact⟨gN.imp (fun _ _ _ a=>(jb a).2) d,gO.imp (fun _ _ _ a=>(jb a).2) e⟩
def zc7(p:Pr)(e:Int)(ln:Nat)(w:C4)(x:Ending)(w':C4):Prop:=
 ∃a c b d,x=.returned (.tuple #[.agg #[.slice a p.wa.length c,.slice b p.funcs.length d],(e:Int),((ln:Int):Int)])/\Cy w w'/\gH w'.heap.size p (.slice a p.wa.length c) (.slice b p.funcs.length d) w'
theorem wP(s:C3)(l:fO B w)(c:B<=w.heap.size){p:Pr}{e:Int}(k:yQ s=(p,e,ln)):Cz 13 #[s] w (zc7 p e ln w):=
 (wO s w).mono fun x w' ⟨hb,v0,v1,d,a,b⟩=>by
   rw[k]at d a b;replace a:=gN.imp nM a;replace b:=gO.imp nM b;obtain⟨f,i,rfl,_⟩:=a.form;obtain⟨g,j,rfl,_⟩:=b.form;exact⟨f,i,g,j,d,hb,D0 _,(l.below (hb.mono c)).mono (Dy c hb.size),a,b⟩
theorem za7:t3 JJ:=⟨by kernel_rfl,⟨fun a c=>Xl,fun f b=>Xu⟩,Dx _,Dx _,fun f b=>Xu,fun f b=>Xu⟩
theorem vG{p:Pr}{k:Int}(a:yQ s=(p,k,ln)):t3 p:=by
 by_cases b:k=0
 .subst b;exact OO a
 .rw[ON a b];exact za7
theorem gH.box{q:Pr}{a b:Option Addr}{e c n1 d:Nat}(f:gH w.heap.size q (.slice a e c) (.slice b n1 d) w):Cy w (w.alloc (qQ a e c b n1 d))/\(w.alloc (qQ a e c b n1 d)).heap[w.heap.size]?=some (qQ a e c b n1 d)/\(w.alloc (qQ a e c b n1 d)).heap.size=w.heap.size+1/\gH w.heap.size q (.slice a e c) (.slice b n1 d) (w.alloc (qQ a e c b n1 d)):=by
 have hb:Cy w (w.alloc (qQ a e c b n1 d)):=Zb.alloc Zr _;exact⟨hb,Ds w _,zA _ _,f.below hb⟩
end Go.Proofs.YthcmenajdcbnnaaGreatDoor
namespace Go.Proofs.YthcmenajdcbnnaaGreatDoor
open Go.RowKit Tryz Go.Maps
variable{s:C3}{p n B L ln:Nat}{r ts:List fH}{t:List UInt8}{w:C4}{v1 v v0 vi:C5}
def VD(c:Option Int)(t:RS):Int:=match c with
 |some _=>1
 |none=>t.stat
def VE(c:Option Int):Int:=match c with
 |some n=>n
 |none=>0
theorem KI{r:fS xy}:UH r=(VD (y1 r).1 (y1 r).2,VE (y1 r).1,(y1 r).2.o,(y1 r).2.cost,(y1 r).2.fuel):=by
 cases r with
 |ok _ s=>rfl
 |fin s=>rfl
theorem za8(c:Option Int)(t:RS):enV c t=.agg #[(VD c t:Int),(VE c:Int)]:=by cases c<;>rfl
theorem VF(B:Nat)(p:Pr)(b:List Int)(q:Int)(v0 v1 vi:C5)(w:C4)(bi:gH B p v0 v1 w)(aV:t3 p)(aN:∀f∈p.funcs,fJ f.body 0<=1000000000)(Y:g5 B w vi b)(aK:fR b)(_:q<=1000000)(_: -9223372036854775808<=q):
 Cz 17 #[.agg #[v0,v1],vi,(q:Int)] w fun e w'=>∃ak,e=.returned (zb4 ak (yD p b q))/\za1 w.heap.size w' ak (yD p b q)/\Cy w w':=by
 obtain⟨E,aW,S,W⟩:=bi;obtain⟨c,i,rfl,_⟩:=S.form;obtain⟨d,j,rfl,_⟩:=W.form;obtain⟨a2,bh,rfl,_⟩:=Y.1.form;obtain⟨⟨L,m,n⟩,aD⟩:=C0 (yu p);have aY:Cy w ((w.alloc (qQ c p.wa.length i d p.funcs.length j)).alloc (y0 0 0 (.slice none 0 0) 0 0)):=(Zb.alloc Zr _).alloc Uj _;have ae:((w.alloc (qQ c p.wa.length i d p.funcs.length j)).alloc (y0 0 0 (.slice none 0 0) 0 0)).heap.size=w.heap.size+2:=by rw[zA,zA]
 have ad:((w.alloc (qQ c p.wa.length i d p.funcs.length j)).alloc (y0 0 0 (.slice none 0 0) 0 0)).heap[w.heap.size]?=some (qQ c p.wa.length i d p.funcs.length j):=zu (Ds w _) _;have aU:((w.alloc (qQ c p.wa.length i d p.funcs.length j)).alloc (y0 0 0 (.slice none 0 0) 0 0)).heap[w.heap.size+1]?=some (y0 0 0 (.slice none 0 0) 0 0):=by have:=Ds (w.alloc (qQ c p.wa.length i d p.funcs.length j)) (y0 0 0 (.slice none 0 0) 0 0);rw[zA]at this;exact this
 have az:=U aW;have am:=U S;have aq:=U W;have K:=U aV;have J:=U aD;have av:=U Y;have a5:=U aK;have a6:=U aN;clear aW S W aV aD Y aK aN;go_enter func17,ntmps17;go_upto_region 1 with fail;generalize(w.alloc (.cells #[(c,p.wa.length,i),(d,p.funcs.length,j)] 27)).alloc (.cells #[(0:Int),(0:Int),(),(0:Int),(0:Int)] 35)=WA at *;have bG:=Dv ae;have bH:=Dv ae.symm;clear ae;obtain⟨⟨be,bf⟩,bg⟩:=zG ad;have bD:w.heap.size<WA.heap.size:=O
 have z:=U aY;have bd:=U ad;have ay:=U aU;clear aY ad aU;have ap:=U (OB B p (L,m,n) (.slice c p.wa.length i) (.slice d p.funcs.length j) WA (az.o.below (z.o.mono E)) O (am.o.below (z.o.mono E) Zr) (aq.o.below (z.o.mono E) Zr) K.o.sz K.o.n1 K.o.n2 J.o);by_cases P:L=0
 case neg=>
  have bx:(L != 0)=true:=by simpa using P
  have r:(yu p).1≠0:=by rw[J.o];exact P
  go_upto_region 2 with(go_at_call 31;(with_reducible refine(ap.o).mono ?_);rintro e al ⟨rfl,a⟩
                        have D:=U (z.o.trans ((a.alloc Xg (.cells #[((m:Int):Int),(fX n:Int)] 62)).mono O));have u:=U (zu ((a.block (w.heap.size+1) O).trans ay.o) (.cells #[((m:Int):Int),(fX n:Int)] 62))
                        clear a)
  generalize al.alloc (.cells #[((m:Int):Int),(fX n:Int)] 62)=W1 at *;obtain⟨⟨bp,bq,br,bs,bt⟩,bu⟩:=zh u.o;have aM:w.heap.size+1<W1.heap.size:=zB u.o;go_wp2_with fail;have R:=iR u.o (.int .i64 0) (.int .i64 0) (.slice none 0 0) (.int .i64 0) (.int .i64 0);have Q:=vZ (g:=w.heap.size+1) (show Cy w W1 from D.o) O (.int .i64 0) (.int .i64 0) (.slice none 0 0) (.int .i64 0) (.int .i64 0);obtain⟨⟨af,ag,ah,ai,aj⟩,_⟩:=zh R;refine bodyPost_ret (v:=.agg #[(0:Int),(0:Int),(),(0:Int),(0:Int)]) (by simp[results,results17,go_sem,af,ag,ah,ai,aj]) rfl ?_;rw[BY r];exact⟨_,rfl,⟨Yp _ _ _ _,Dx _⟩,Q⟩
 case pos=>
  subst P;have r:(yu p).1=0:=by rw[J.o]
  obtain⟨aT,bk,N,G,X⟩:=iQ r;obtain⟨F,hF⟩:∃F:Nat,q.toNat=F:=⟨_,rfl⟩
  have bw:max q 0=(F:Int):=by rw[<-hF];omega
  have aC:F<=1000000:=O
  have I:=wD r G b q;rw[hF,KI]at I;have aa:=za0 r G X b aC;have au:=U (zaz r a6.o);have ar:=U (Dt G (show N.params.length=0 by rw[X];rfl));have a9:=U aT;obtain⟨M,aI⟩:∃x,x=(y1 (qG (qn p F) [] N.body (xA p b F))).1:=⟨_,rfl⟩
  obtain⟨t,aX⟩:∃x,x=(y1 (qG (qn p F) [] N.body (xA p b F))).2:=⟨_,rfl⟩
  rw[<-aI,<-aX]at I aa;have aJ:=za8 M t;generalize VD M t=st at *;generalize VE M=tn at *;have bb:=U I;have bc:=U aa;have a4:=U aJ;clear I aa aJ;clear r aT bk G X aI aX hF
  go_upto_region 4 with(go_at_call 31;(with_reducible refine(ap.o).mono ?_);rintro e al ⟨rfl,a⟩
                        have D:=U (z.o.trans ((a.alloc Xg (.cells #[((m:Int):Int),(fX n:Int)] 62)).mono O));have u:=U (zu ((a.block (w.heap.size+1) O).trans ay.o) (.cells #[((m:Int):Int),(fX n:Int)] 62));have aA:=U (zu ((a.block w.heap.size O).trans bd.o) (.cells #[((m:Int):Int),(fX n:Int)] 62))
                        clear a)
  generalize al.alloc (.cells #[((m:Int):Int),(fX n:Int)] 62)=W1 at *;clear be bf bg;obtain⟨⟨aZ,a0⟩,a1⟩:=zG aA.o;have bv:w.heap.size<W1.heap.size:=zB aA.o;have aM:w.heap.size+1<W1.heap.size:=zB u.o;have A:=D.o.mono E;have a8:=U (UP p (.slice c p.wa.length i) (.slice d p.funcs.length j) (.slice a2 b.length bh) b F W1 (am.o.below A O) (aq.o.below A O) (av.o.below A O) au.o)
  go_upto_region 5 with(go_at_call 32;(with_reducible refine(a8.o).mono ?_);rintro e _ ⟨rfl,_,_,_,bo,aP,aO,rfl⟩
                        have Z:=UU rfl aP aO au.o ((az.o.below A).mono O) a9.o (av.o.below A O) a5.o aC;have ao:=U Z.2;have a3:=U (UF Z.1 rfl ar.o.1 ar.o.2 O bc.o)
                        clear aP aO Z)
  generalize bo.setCell (W1.heap.size+1+1+1,9) ((F:Int):Int)=W2 at *;clear aZ a0 a1
  go_upto_region 6 with(go_at_call 33;(with_reducible refine(a3.o).mono ?_);rintro e l ⟨rfl,⟨_,_,_,ak,V,ab,aQ,aR⟩,T⟩
                        rw[a4.o];obtain⟨s,y,rfl⟩:=zY ab;have aE:Cy W1 (l.alloc (.cells #[(st:Int),(tn:Int)] 68)):=(ao.o.trans T).alloc (by have:=(ao.o.trans T).size;omega) _;have an:=U aE;have a7:=U (Ds l (.cells #[(st:Int),(tn:Int)] 68));have aB:=U (zu V (.cells #[(st:Int),(tn:Int)] 68));have ax:=U (qS ab ((D4 l.heap.size l).alloc Zr (.cells #[(st:Int),(tn:Int)] 68)) Zr);have bF:(l.alloc (.cells #[(st:Int),(tn:Int)] 68)).heap.size=l.heap.size+1:=zA _ _;have aF:=zB V;have aw:=U (Dt aQ aR)
                        clear V ab T aE aQ aR)
  generalize l.alloc (.cells #[(st:Int),(tn:Int)] 68)=W4 at *;obtain⟨⟨aZ,a0⟩,a1⟩:=zG a7.o;obtain⟨⟨_,_,_,_,_,_,_,_,_,_⟩,_⟩:=zD aB.o;have H:=(an.o.block (w.heap.size+1) aM).trans u.o;obtain⟨⟨bp,bq,br,bs,bt⟩,bu⟩:=zh H;have bz:l.heap.size<W4.heap.size:=O
  have bA:W1.heap.size+1+1+1<W4.heap.size:=by show _<_;have aF:W1.heap.size+1+1+1<l.heap.size:=aF;omega
  have bC:w.heap.size+1<W4.heap.size:=zB H;have ba:=U H;clear H;go_wp2_with fail
  go_region
  all_goals
   go_wp2_with fail
  have aH:W1.heap.size+1+1+1≠w.heap.size+1:=O
  have aG:w.heap.size<=W1.heap.size+1+1+1:=O
  have bm:(Value.slice s t.o.length y).ownBlock≠some (W1.heap.size+1+1+1):=uJ ax.o (show Is W4 (W1.heap.size+1+1+1) 74 _ from aB.o) Uf
  have bn:((W4.setCell (W1.heap.size+1+1+1,5) (st:Int)).setCell (W1.heap.size+1+1+1,6) (tn:Int)).heap[w.heap.size+1]?=some (y0 0 0 (.slice none 0 0) 0 0):=
   (Dw _ ⟨W1.heap.size+1+1+1,6,none⟩ _ _ aH.symm).trans ((Dw _ ⟨W1.heap.size+1+1+1,5,none⟩ _ _ aH.symm).trans ba.o)
  have bl:Cy w ((W4.setCell (W1.heap.size+1+1+1,5) (st:Int)).setCell (W1.heap.size+1+1+1,6) (tn:Int)):=
   ((D.o.trans (an.o.mono O)).setCell (p:=(W1.heap.size+1+1+1,5)) aG _).setCell (p:=(W1.heap.size+1+1+1,6)) aG _
  have aS:((W4.setCell (W1.heap.size+1+1+1,5) (st:Int)).setCell (W1.heap.size+1+1+1,6) (tn:Int)).ownsRow W1.heap.size 3 1 (.slice s t.o.length y) t.o.length (t.o.map (Value.int .i64)):=
   zQ ax.o fun k C=>by
    have aL:k≠W1.heap.size+1+1+1:=fun e=>bm (e▸C)
    exact(Dw _ ⟨W1.heap.size+1+1+1,6,none⟩ _ k aL).trans (Dw _ ⟨W1.heap.size+1+1+1,5,none⟩ _ k aL)
  generalize(W4.setCell (W1.heap.size+1+1+1,5) (st:Int)).setCell (W1.heap.size+1+1+1,6) (tn:Int)=W7 at *;have R:=iR bn (.int .i64 st) (.int .i64 tn) (.slice s t.o.length y) (.int .i64 (t.cost:Int)) (.int .i64 (t.fuel:Int));have Q:=vZ (g:=w.heap.size+1) bl O (.int .i64 st) (.int .i64 tn) (.slice s t.o.length y) (.int .i64 (t.cost:Int)) (.int .i64 (t.fuel:Int));have bj:=fun k (C:k≠w.heap.size+1)=>lY W7 C (.int .i64 st) (.int .i64 tn) (.slice s t.o.length y) (.int .i64 (t.cost:Int)) (.int .i64 (t.fuel:Int))
  obtain⟨⟨af,ag,ah,ai,aj⟩,_⟩:=zh R;refine bodyPost_ret (v:=.agg #[(st:Int),(tn:Int),(s,t.o.length,y),((t.cost:Int):Int),((t.fuel:Int):Int)]) (by simp[results,results17,go_sem,af,ag,ah,ai,aj]) rfl ?_;rw[bb.o];exact⟨_,rfl,⟨(zQ aS fun k C=>bj k (by have:=(zT aS k C).2;omega)).mono O,(by show t.o.length<=_;have:=aw.o.1;have:=aw.o.2;omega)⟩,Q.drew⟩
theorem v9(B:Nat)(p:Pr)(b:List Int)(a:Int)(v0 v1 vi:C5)(w:C4)(i:gH B p v0 v1 w)(c:t3 p)(k:g5 B w vi b)(l:fR b)(j:a<=1000000)(m: -9223372036854775808<=a):
 Cz 17 #[.agg #[v0,v1],vi,(a:Int)] w fun e w'=>∃v,e=.returned v/\GV w'.heap.size w' v (yD p b a)/\Cy w w':=
 (VF B p b a v0 v1 vi w i c c.ln k l j m).mono fun e w' ⟨_,d,f,g⟩=>⟨_,d,f.run,g⟩
end Go.Proofs.YthcmenajdcbnnaaGreatDoor
namespace Go.Proofs.YthcmenajdcbnnaaGreatDoor
open Go.RowKit Tryz
variable{s:C3}{p n B L ln:Nat}{r ts:List fH}{t:List UInt8}{w:C4}{v1 v v0 vi:C5}
def za9:C3:=⟨#[105,110,116,32,109,97,105,110,40,41,32,123,32,112,114,105,110,116,40,54,32,42,32,55,41,59,32,114,101,116,117,114,110,32,49,32,47,32,48,59,32,125]⟩
def zba:C3:=⟨#[105,110,116,32,102,40,105,110,116,32,110,41,32,123,32,105,102,32,40,110,32,60,32,50,41,32,123,32,114,101,116,117,114,110,32,49,59,32,125,32,114,101,116,117,114,110,32,110,32,42,32,102,40,110,32,45,32,49,41,59,32,125,32,105,110,116,32,109,97,105,110,40,41,32,123,32,114,101,116,117,114,110,32,102,40,114,101,97,100,40,41,41,59,32,125]⟩
def KJ:Pr:=(yQ za9).1
def y3:Pr:=(yQ zba).1
theorem zb7:yQ za9=(KJ,0,0):=by kernel_rfl
theorem zbb:yQ zba=(y3,0,0):=by kernel_rfl
theorem zc8:yD KJ [] 100=(2,0,[42],3,92):=by kernel_rfl
theorem zc9:yD y3 [5] 20=(0,0,[],6,0):=by kernel_rfl
theorem zda:yD y3 [5] 200=(1,120,[],19,147):=by kernel_rfl
theorem zb8:KJ.wa.length=0/\KJ.funcs.length=1:=⟨by kernel_rfl,by kernel_rfl⟩
theorem zb9:y3.wa.length=0/\y3.funcs.length=2:=⟨by kernel_rfl,by kernel_rfl⟩
theorem zdb(i:fO B w)(g:B<=w.heap.size):Cz 13 #[.string ⟨#[105,110,116,32,109,97,105,110,40,41,32,123,32,112,114,105,110,116,40,54,32,42,32,55,41,59,32,114,101,116,117,114,110,32,49,32,47,32,48,59,32,125]⟩] w fun x w'=>∃a c b d,x=.returned (.tuple #[.agg #[.slice a 0 c,.slice b 1 d],(0:Int),(0:Int)])/\Cy w w'/\gH w'.heap.size KJ (.slice a 0 c) (.slice b 1 d) w':=
 (wP za9 i g zb7).mono fun x w' ⟨a,c,b,d,e,hb,f⟩=>by rw[zb8.1,zb8.2]at e f;exact⟨a,c,b,d,e,hb,f⟩
theorem zdc(i:fO B w)(g:B<=w.heap.size):Cz 13 #[.string ⟨#[105,110,116,32,102,40,105,110,116,32,110,41,32,123,32,105,102,32,40,110,32,60,32,50,41,32,123,32,114,101,116,117,114,110,32,49,59,32,125,32,114,101,116,117,114,110,32,110,32,42,32,102,40,110,32,45,32,49,41,59,32,125,32,105,110,116,32,109,97,105,110,40,41,32,123,32,114,101,116,117,114,110,32,102,40,114,101,97,100,40,41,41,59,32,125]⟩] w fun x w'=>∃a c b d,x=.returned (.tuple #[.agg #[.slice a 0 c,.slice b 2 d],(0:Int),(0:Int)])/\Cy w w'/\gH w'.heap.size y3 (.slice a 0 c) (.slice b 2 d) w':=
 (wP zba i g zbb).mono fun x w' ⟨a,c,b,d,e,hb,f⟩=>by rw[zb9.1,zb9.2]at e f;exact⟨a,c,b,d,e,hb,f⟩
theorem zdd(e:gH B KJ v0 v1 w)(f:g5 B w vi [])(g:fR []):Cz 17 #[.agg #[v0,v1],vi,(100:Int)] w fun x w'=>∃a b,x=.returned (.agg #[(2:Int),(0:Int),.slice a 1 b,(3:Int),(92:Int)])/\rF w'.heap.size w' (.slice a 1 b) [42]/\Cy w w':=
 (v9 B KJ [] 100 v0 v1 vi w e (vG zb7) f g Uf Uf).mono fun x w' ⟨v,i,⟨_,d,c,_⟩,hb⟩=>by
   rw[zc8]at d c;exact Ua
theorem zde(e:gH B y3 v0 v1 w)(f:g5 B w vi [5])(g:fR [5]):Cz 17 #[.agg #[v0,v1],vi,(200:Int)] w fun x w'=>∃a b,x=.returned (.agg #[(1:Int),(120:Int),.slice a 0 b,(19:Int),(147:Int)])/\rF w'.heap.size w' (.slice a 0 b) []/\Cy w w':=
 (v9 B y3 [5] 200 v0 v1 vi w e (vG zbb) f g Uf Uf).mono fun x w' ⟨v,i,⟨_,d,c,_⟩,hb⟩=>by
   rw[zda]at d c;exact Ua
theorem zdf(e:gH B y3 v0 v1 w)(f:g5 B w vi [5])(g:fR [5]):Cz 17 #[.agg #[v0,v1],vi,(20:Int)] w fun x w'=>∃a b,x=.returned (.agg #[(0:Int),(0:Int),.slice a 0 b,(6:Int),(0:Int)])/\rF w'.heap.size w' (.slice a 0 b) []/\Cy w w':=
 (v9 B y3 [5] 20 v0 v1 vi w e (vG zbb) f g Uf Uf).mono fun x w' ⟨v,i,⟨_,d,c,_⟩,hb⟩=>by
   rw[zc9]at d c;exact Ua
theorem L0(B:Nat)(w:C4):g5 B w (.slice none 0 0) []:=⟨xW B w,fun _ n c e=>Kk⟩
theorem L1:fR []:=fun n a=>Uo
theorem HT:fR [5]:=fun n a=>by rw[List.mem_singleton.1 a];exact⟨Uf,Uf⟩
theorem HU(w:C4):g5 (w.heap.size+1) (w.alloc (.cells #[(5:Int)] 3)) (.slice (some ⟨w.heap.size,0,none⟩) 1 1) [5]:=
 ⟨CK (l:=[5]) (T:=3) (fr:=(0,0)) (Ds w _) (Nat.lt_succ_self _) Uf 1,fun _ n c e=>Kk⟩
theorem KK{a b d e:Int}:Cy w (w.alloc (y0 a b v d e))/\(w.alloc (y0 a b v d e)).heap[w.heap.size]?=some (y0 a b v d e)/\(w.alloc (y0 a b v d e)).heap.size=w.heap.size+1:=
 ⟨Zb.alloc Zr _,Ds w _,zA _ _⟩
theorem zAq(B:Nat)(w:C4)(S:fO B w)(Q:B<=w.heap.size):Cz 15 #[] w (Cw true w):=by
 have K:=U S;clear S;go_enter func15,ntmps15
 go_upto_region 2 with(go_at_call 13;(with_reducible refine(zdb K.o Q).mono ?_);rintro e F ⟨T,aH,V,aI,rfl,hb,u⟩
                       obtain⟨f,g,j,x⟩:=u.box;have af:=U x;have aE:=U g;have Y:=U (hb.trans (f.mono hb.size));have aW:w.heap.size<=F.heap.size:=hb.size;have z:=j
                       clear hb u f g j x)
 generalize F.alloc (qQ T 0 aH V 1 aI)=W1 at *;have aX:=Dv z;have aY:=Dv z.symm;clear z;obtain⟨⟨q,r⟩,s⟩:=zG aE.o;have aT:F.heap.size<W1.heap.size:=O
 go_upto_region 3 with(go_at_call 17;(with_reducible refine(zdd af.o (L0 _ _) L1).mono ?_);rintro e k ⟨Ar,M,rfl,R,hb⟩
                       obtain⟨f,g,j⟩:=KK (w:=k) (a:=2) (b:=0) (d:=3) (e:=92) (v:=.slice Ar 1 M);have ax:=U (R.below f Zr);have ap:=U g;have aZ:W1.heap.size<=k.heap.size:=hb.size;have I:=U ((Y.o.trans (hb.mono O)).trans (f.mono O));have A:=j
                       clear hb R f g j)
 generalize k.alloc (y0 2 0 (.slice Ar 1 M) 3 92)=W2 at *;have a0:=Dv A;have a1:=Dv A.symm;clear A q r s;have aD:=U (K.o.below (I.o.mono Q))
 go_upto_region 4 with(go_at_call 13;(with_reducible refine(zdc aD.o O).mono ?_);rintro e l ⟨W,aJ,X,aK,rfl,hb,u⟩
                       obtain⟨f,g,j,x⟩:=u.box;have ag:=U x;have L:=U g;have aM:W2.heap.size<=l.heap.size:=hb.size;have c:=hb.trans (f.mono aM);have Z:=U (I.o.trans (c.mono O));have ay:=U (ax.o.below (c.mono O) Zr);have aq:=U ((c.block k.heap.size O).trans ap.o);have C:=j
                       clear hb u f g j x c)
 generalize l.alloc (qQ W 0 aJ X 2 aK)=W3 at *;have a2:=Dv C;have a3:=Dv C.symm;clear C;obtain⟨⟨q,r⟩,s⟩:=zG L.o;have aU:l.heap.size<W3.heap.size:=O
 have m:Cy W3 (W3.alloc (.cells #[(5:Int)] 3)):=Zb.alloc Zr _;have aj:=U (HU W3);have J:=U ((ag.o.below (m.mono O)).mono (show l.heap.size<=W3.heap.size+1 by omega) (by rw[zA];exact D0 _));have aa:=U (Z.o.trans (m.mono O));have aF:=U ((m.block l.heap.size O).trans L.o);have az:=U (ay.o.below (m.mono O) Zr);have ar:=U ((m.block k.heap.size O).trans aq.o);have aN:(W3.alloc (.cells #[(5:Int)] 3)).heap.size=W3.heap.size+1:=zA _ _;clear m
 go_upto_region 5 with(go_at_call 17;(with_reducible refine(zde J.o aj.o HT).mono ?_);rintro e p ⟨G,N,rfl,_,hb⟩
                       obtain⟨f,g,j⟩:=KK (w:=p) (a:=1) (b:=120) (d:=19) (e:=147) (v:=.slice G 0 N);have a4:W3.heap.size+1<=p.heap.size:=by have:=hb.size;omega
                       have c:=hb.trans (f.mono O);have aG:=U ((c.block l.heap.size O).trans aF.o);have aA:=U (az.o.below (c.mono O) Zr);have au:=U ((c.block k.heap.size O).trans ar.o);have am:=U g;have ah:=U (J.o.below (c.mono O));have ab:=U (aa.o.trans (c.mono O));have D:=j
                       clear hb f g j c)
 generalize p.alloc (y0 1 120 (.slice G 0 N) 19 147)=W5 at *;have a5:=Dv D;have a6:=Dv D.symm;clear D q r s aN;obtain⟨⟨q,r⟩,s⟩:=zG aG.o;have aV:l.heap.size<W5.heap.size:=O
 have n:Cy W5 (W5.alloc (.cells #[(5:Int)] 3)):=Zb.alloc Zr _;have ak:=U (HU W5);have ai:=U ((ah.o.below (n.mono O)).mono (show W3.heap.size+1<=W5.heap.size+1 by omega) (by rw[zA];exact D0 _));have ad:=U (ab.o.trans (n.mono O));have aB:=U (aA.o.below (n.mono O) Zr);have av:=U ((n.block k.heap.size O).trans au.o);have an:=U ((n.block p.heap.size O).trans am.o);have a7:(W5.alloc (.cells #[(5:Int)] 3)).heap.size=W5.heap.size+1:=zA _ _;clear n
 go_upto_region 6 with(go_at_call 17;(with_reducible refine(zdf ai.o ak.o HT).mono ?_);rintro e y ⟨H,P,rfl,_,hb⟩
                       obtain⟨f,g,j⟩:=KK (w:=y) (a:=0) (b:=0) (d:=6) (e:=0) (v:=.slice H 0 P);have a8:W5.heap.size+1<=y.heap.size:=by have:=hb.size;omega
                       have c:=hb.trans (f.mono O);have aC:=U (aB.o.below (c.mono O) Zr);have aw:=U ((c.block k.heap.size O).trans av.o);have ao:=U ((c.block p.heap.size O).trans an.o);have al:=U g;have ae:=U (ad.o.trans (c.mono O));have E:=j
                       clear hb f g j c)
 generalize y.alloc (y0 0 0 (.slice H 0 P) 6 0)=W7 at *;have a9:=Dv E;have ba:=Dv E.symm;clear E q r s;obtain⟨⟨_,_,_,_,_⟩,_⟩:=zh aw.o;obtain⟨⟨_,_,_,_,_⟩,_⟩:=zh ao.o;obtain⟨⟨_,_,_,_,_⟩,_⟩:=zh al.o;obtain⟨aL,or,rfl,_,aO⟩:=aC.o.cells (i:=0) (t:=42) rfl;rw[Nat.add_zero]at aO;have aS:k.heap.size<W7.heap.size:=O
 have aR:p.heap.size<W7.heap.size:=O
 have aQ:y.heap.size<W7.heap.size:=O
 have aP:aL<W7.heap.size:=O
 go_wp2_with fail;go_ret;exact⟨rfl,ae.o⟩
