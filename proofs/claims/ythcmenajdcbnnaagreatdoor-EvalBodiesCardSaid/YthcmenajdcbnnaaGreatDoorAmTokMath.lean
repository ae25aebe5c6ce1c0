import Derived.Test.YthcmenajdcbnnaaGreatDoorAmZee
import Derived.Lib.AtoiAllCases
import Derived.Lib.SlTrimSet
import Derived.Lib.IndexLaws
import Derived.Test.YthcmenajdcbnnaaGreatDoorShelf
import Derived.WalkSpells
import Derived.WalkLawsBesides
import Derived.Lib.Walk
import Derived.Deep.Light
import Derived.Lib.SmallJoins
import Derived.Lib.ItoaMem
set_option linter.unusedSimpArgs false
set_option linter.unusedVariables false
set_option maxRecDepth 100000
namespace Go.Proofs.YthcmenajdcbnnaaGreatDoor
open Go.RowKit Tryz
theorem Oa{p:Prop}(h:p:=by
 simp only[Nat.reducePow]at this
 erw [this]
 simp only[IntKind.wrap,IntKind.bits,IntKind.signed];simp;split<;>split<;>omega):p:=h
theorem Ob{p:Prop}(h:p:=by
 have:=jv ((2 ^ j-1 :Nat):Int);have i:((2 ^ j-1 :Nat):Int) % 18446744073709551616=((2 ^ j-1 :Nat):Int):=Int.emod_eq_of_lt O O
 omega):p:=h
theorem Oc{p:Prop}(h:p:=by
 have:(2 ^ j:Nat) ∣ 18446744073709551616:=(Nat.pow_dvd_pow 2 (by omega:j<=64):(2 ^ j:Nat) ∣ 2 ^ 64)
 exact Int.natCast_dvd_natCast.2 this):p:=h
theorem Od{p:Prop}(h:p:=by
 go_wp2
 all_goals go_ret
 all_goals refine⟨zC ?_,rfl⟩
 all_goals go_light
 all_goals(unfold uI;rw[Yk];simp;omega)):p:=h
theorem Oe{p:Prop}(h:p:=by
 go_wp2
 all_goals go_ret
 all_goals refine⟨zC ?_,rfl⟩
 all_goals go_light
 all_goals(unfold g8;rw[Yk];simp;omega)):p:=h
theorem Of{p:Prop}(h:p:=by
 go_wp2
 all_goals go_ret
 all_goals refine⟨zC ?_,rfl⟩
 all_goals go_light
 all_goals simp_all [xn,P7]):p:=h
theorem Og{p:Prop}(h:p:=by
 cases i with
 |zero=>simp at b;subst b;exact c.1
 |succ i=>exact d c.2 Uo):p:=h
theorem Oh{p:Prop}(h:p:=by
 simp only[IntKind.wrap,IntKind.bits,IntKind.signed];simp;split<;>omega):p:=h
theorem Oi{p:Prop}(h:p:=by
 clear a b;go_enter func106,ntmps106;go_wp2;go_ret
 exact⟨rfl,rfl⟩):p:=h
structure fH where
 kind:Int
 text:List UInt8
 line:Nat
def k9(c:UInt8):Bool:=(65<=c.toNat&&c.toNat<=90) || (97<=c.toNat&&c.toNat<=122) || c.toNat == 95
def ki(c:UInt8):Bool:=48<=c.toNat&&c.toNat<=57
def qp(c:UInt8):Bool:=k9 c || ki c
def yU(c:UInt8):Bool:=c.toNat == 32 || c.toNat == 9 || c.toNat == 13 || c.toNat == 10
def P7:List (List UInt8):=
 [[105,110,116],[98,111,111,108],[105,102],[101,108,115,101],[119,104,105,108,101],[98,114,101,97,107],
  [99,111,110,116,105,110,117,101],[114,101,116,117,114,110],[112,114,105,110,116],[114,101,97,100],
  [116,114,117,101],[102,97,108,115,101],[105,56],[105,49,54],[105,51,50],[117,56],[117,49,54],[117,51,50]]
def xn(t:List UInt8):Bool:=P7.contains t
def xG(t:List UInt8):Bool:=(!t.isEmpty)&&decide (t.length<=20)&&k9 (t.headD 0)&&t.all qp&&!xn t
def kS(tk:Nat)(l:List UInt8):Nat:=l.foldl (fun a c=>a*10+(c.toNat-48)) tk
theorem g6(tk:Nat):kS tk []=tk:=by unfold kS;rw[List.foldl_nil]
theorem nP(tk:Nat)(c:UInt8)(r:List UInt8):kS tk (c::r)=kS (tk*10+(c.toNat-48)) r:=by unfold kS;rw[List.foldl_cons]
theorem DT(a b:List UInt8)(tk:Nat):kS tk (a++b)=kS (kS tk a) b:=by unfold kS;rw[List.foldl_append]
theorem iR(l:List UInt8)(tk:Nat)(c:UInt8):kS tk (l++[c])=kS tk l*10+(c.toNat-48):=by rw[DT,nP,g6]
def xK(t:List UInt8):Bool:=(!t.isEmpty)&&t.all ki&&(t == [48] || t.headD 0 != 48)&&decide (kS 0 t<9223372036854775808)
def yV(t:List UInt8):Option Int:=if xn t then some 2 else if xG t then some 1 else if xK t then some 0 else none
def HO:List (List UInt8):=[[61,61],[33,61],[60,61],[62,61],[60,60],[62,62],[38,38],[124,124]]
def BY:List (List UInt8):=[[40],[41],[123],[125],[91],[93],[44],[59],[61],[60],[62],[43],[45],[42],[47],[37],[38],[124],[94],[126],[33]]
def g7:List (List UInt8):=[62,62,62]::(HO++BY)
def xy(l:List UInt8):List UInt8:=(g7.find? (fun t=>Lib.hasPrefix l t)).getD []
def wH(l:List UInt8):Option (Int×List UInt8):=
 if l.takeWhile qp≠[]then(yV (l.takeWhile qp)).map fun k=>(k,l.takeWhile qp)
 else if xy l≠[]then some (2,xy l)else none
def qF:List UInt8->Nat->List fH×Option Nat
 |[],line=>([⟨3,[],line⟩],none)
 |c::r,line=>
   if c.toNat == 10 then qF r (line+1)
   else if yU c then qF r line
   else if c.toNat == 47&&r.head? == some 47 then qF (r.dropWhile (fun d=>d.toNat != 10)) line
   else match wH (c::r)with
    |none=>([],some line)
    |some (k,t)=>(⟨k,t,line⟩::(qF (r.drop (t.length-1)) line).1,(qF (r.drop (t.length-1)) line).2)
termination_by l=>l.length
decreasing_by
 all_goals simp only[D1,Ys]
 all_goals first
  |omega
  |exact Nat.lt_succ_of_le (List.IsSuffix.length_le (List.dropWhile_suffix _))
def uI(c:Int):Bool:=decide ((65<=c/\c<=90)\/(97<=c/\c<=122)\/c=95)
def g8(c:Int):Bool:=decide (48<=c/\c<=57)
theorem iS(c:UInt8):uI (c.toNat:Int)=k9 c:=by
 unfold uI k9;rw[Yk];simp;omega
theorem iT(c:UInt8):g8 (c.toNat:Int)=ki c:=by
 unfold g8 ki;rw[Yk];simp;omega
theorem LX(c:Int)(_:128<=c):uI c=false:=by unfold uI;simp;omega
theorem LY(c:Int)(_:128<=c):g8 c=false:=by unfold g8;simp;omega
theorem LZ(c:UInt8)(h:qp c=true):c.toNat<128:=by
 simp[qp,k9,ki]at h;omega
theorem lA(c:UInt8)(h:k9 c=true):ki c=false:=by
 simp[k9,ki]at h ⊢;omega
theorem VW(p:UInt8->Bool)(l:List UInt8)(k:Nat)(f:k<=l.length)(d:∀(j:Nat) b,j<k->l[j]?=some b->p b=true)(e:∀b,l[k]?=some b->p b=false):(l.takeWhile p)=l.take k:=by
 induction l generalizing k with
 |nil=>simp
 |cons a t g=>
   cases k with
   |zero=>
     have:=e a rfl;simp[List.takeWhile,this]
   |succ k=>
     have:=d 0 a O rfl;rw[List.takeWhile_cons_of_pos this,Y6,g k (by simpa using f) (fun j b _ c=>d (j+1) b O Ux) (fun b c=>e b Ux)]
theorem l1(p:UInt8->Bool)(l:List UInt8)(k:Nat)(d:k<=l.length)(a:∀(j:Nat) b,j<k->l[j]?=some b->p b=true)(c:∀b,l[k]?=some b->p b=false):(l.takeWhile p).length=k:=by
 rw[VW p l k d a c,Yg];omega
def xL(l:List UInt8):Nat:=(l.takeWhile qp).length
theorem P8(l:List UInt8):xL l<=l.length:=List.IsPrefix.length_le (Cr _)
theorem L0(l:List UInt8):xL l=l.length↔l.all qp=true:=by
 unfold xL;constructor
 .intro a
  have:=List.IsPrefix.eq_of_length (Cr (l:=l) qp) a;rw[<-this];exact List.all_takeWhile
 .intro a
  exact l1 qp l l.length Zr (fun j b _ c=>List.all_eq_true.1 a b (Yc c)) (fun b c=>Vu)
theorem P9(l:List UInt8)(e:l≠[])(f:l.length<=20):xG l=((!ki (l.headD 0))&&decide (xL l=l.length)&&!xn l):=by
 cases l with
 |nil=>exact absurd rfl e
 |cons c r=>
   rw[Yk];simp only[xG,L0,Co,D2,decide_eq_true_eq];simp only[List.isEmpty_cons,Bool.not_false,f,true_and,List.all_cons,D2];constructor
   .rintro⟨⟨i,a,b⟩,d⟩
    exact⟨⟨by simp[lA c i],a,b⟩,d⟩
   .rintro⟨⟨g,a,b⟩,d⟩
    refine⟨⟨?_,a,b⟩,d⟩;simp[qp]at a;rcases a with a|a
    .exact a
    .simp[a]at g
theorem x5:xG []=false:=rfl
theorem rJ(l:List UInt8)(_:20<l.length):xG l=false:=by
 simp[xG];omega
def nl(l:List UInt8):Nat:=l.countP (fun d=>d.toNat == 10)
def nQ(l:List UInt8):Nat:=if Lib.hasPrefix l [47,47]then(l.takeWhile (fun d=>d.toNat != 10)).length else(l.takeWhile yU).length
theorem BZ(p:UInt8->Bool)(l:List UInt8):l.dropWhile p=l.drop (l.takeWhile p).length:=by
 have h:=List.takeWhile_append_dropWhile (p:=p) (l:=l)
 conv=>rhs;rw[<-h]
 rw[List.drop_append];simp
theorem L1(c:UInt8)(h:c.toNat=10):yU c=true:=by simp[yU,h]
theorem g9:∀(l:List UInt8) (a:Nat),qF l a=qF (l.drop (l.takeWhile yU).length) (a+nl (l.take (l.takeWhile yU).length))
 |[],a=>by simp[nl]
 | c::r,a=>by
   by_cases d:yU c=true
   .rw[List.takeWhile_cons_of_pos d]
    simp only[D1,List.drop_succ_cons,Y6];rw[qF];by_cases b:c.toNat=10
    .simp only[b,beq_self_eq_true,if_true]
     rw[g9 r (a+1)];congr 1;simp[nl,b];omega
    .have:(c.toNat == 10)=false:=by simpa using b
     simp only[this,d,if_true];rw[Dp Uh,g9 r a];congr 1;simp[nl,b]
   .rw[List.takeWhile_cons_of_neg d]
    simp[nl]
theorem vF{l:List UInt8}(h:Lib.hasPrefix l [47,47]=true):∃r,l=47::47::r:=by
 match l,h with
 |[],h=>simp[Lib.hasPrefix]at h
 |[a],h=>simp[Lib.hasPrefix]at h
 |a::b::r,h=>
   simp[Lib.hasPrefix]at h;exact⟨r,by rw[<-h.1,<-h.2]⟩
theorem KF(l:List UInt8):nl (l.take (l.takeWhile (fun d=>d.toNat != 10)).length)=0:=by
 have e:l.take (l.takeWhile (fun d=>d.toNat != 10)).length=l.takeWhile (fun d=>d.toNat != 10):=(List.prefix_iff_eq_take.1 (Cr _)).symm;rw[e];unfold nl;rw[List.countP_eq_zero];intro a b;have:=List.all_takeWhile (p:=fun d:UInt8=>d.toNat != 10) (l:=l);have:=List.all_eq_true.1 this a b;simpa using this
theorem QA(l:List UInt8)(a:Nat):qF l a=qF (l.drop (nQ l)) (a+nl (l.take (nQ l))):=by
 unfold nQ;split
 .rename_i b
  obtain⟨r,rfl⟩:=vF b;rw[KF,<-BZ]
  conv=>lhs;rw[qF]
  rfl
 .exact g9 l a
theorem QB{c:UInt8}{r:List UInt8}(a:nQ (c::r)=0):yU c=false/\(c.toNat == 47&&r.head? == some 47)=false:=by
 unfold nQ at a;split at a
 .rename_i f
  obtain⟨k,e⟩:=vF f;rw[e]at a;simp at a
 .rename_i f
  refine⟨?_,?_⟩
  .cases hb:yU c with
   |false=>rfl
   |true=>rw[List.takeWhile_cons_of_pos hb]at a;simp at a
  .rw[Ck]
   intro g;apply f;simp at g;obtain⟨i,d⟩:=g;have j:c=47:=UInt8.toNat_inj.1 i;cases r with
   |nil=>simp at d
   |cons b t=>
     simp at d;subst j d;rfl
theorem x6{c:UInt8}{r:List UInt8}(d:nQ (c::r)=0)(a:Nat):qF (c::r) a=match wH (c::r)with
 |none=>([],some a)
 |some (k,t)=>(⟨k,t,a⟩::(qF (r.drop (t.length-1)) a).1,(qF (r.drop (t.length-1)) a).2):=by
 obtain⟨b,g⟩:=QB d
 have f:(c.toNat == 10)=false:=by
  rw[Ck];intro e;rw[L1 c Vr]at b;cases b
 rw[qF,Dp Vv,Dp (by simp[b]),Dp (by rw[g];simp)]
theorem VX(l:List UInt8):∀(tk:Nat),tk<=kS tk l:=by
 induction l with
 |nil=>intro tk;rw[g6];exact D0 _
 |cons c r a=>
   intro tk;have b:=a (tk*10+(c.toNat-48));rw[nP];omega
theorem rK{α:Type}(p:α->Bool):∀(a:List α) (k:Nat) (t:α),a[k]?=some t->p t=true->(∀(j:Nat) b,j<k->a[j]?=some b->p b=false)->a.find? p=some t
 |[],k,t,h,_,_=>Xa
 | x::a,0,t,h,hp,_=>by
   simp at h;subst h;simp[List.find?,hp]
 | x::a,k+1,t,h,hp,hn=>by
   have c:=hn 0 x O rfl;rw[List.find?_cons_of_neg (by simp[c])];exact rK p a k t Xq hp (fun j b _ d=>hn (j+1) b O Uy)
theorem HP{α:Type}(p:α->Bool)(b:List α)(d:∀(j:Nat) a,b[j]?=some a->p a=false):b.find? p=none:=by
 rw[List.find?_eq_none];intro x e;obtain⟨j,c⟩:=List.mem_iff_getElem?.1 e;simp[d j x c]
theorem qK{k:IntKind}{a b:Int}(h:a=b):Ending.returned (.int k a)=.returned (.int k b):=by rw[h]
theorem zC{a b:Bool}(h:a=b):Ending.returned (.bool a)=.returned (.bool b):=by rw[h]
theorem rL(c:Int)(w:C3):Cy 151 #[.int .i32 c] w (Cw (uI c) w):=by
 go_enter func151,ntmps151;exact Od
theorem DU(c:Int)(w:C3):Cy 47 #[.int .u8 c] w (Cw (uI c) w):=by
 go_enter func47,ntmps47;exact Od
theorem nR(c:Int)(w:C3):Cy 129 #[.int .i32 c] w (Cw (g8 c) w):=by
 go_enter func129,ntmps129;exact Oe
theorem HQ(c:Int)(w:C3):Cy 48 #[.int .u8 c] w (Cw (g8 c) w):=by
 go_enter func48,ntmps48;exact Oe
theorem QC(s:C2)(w:C3):Cy 131 #[s] w (Cw (xn s.data.toList) w):=by
 rw[<-Ym];go_enter func131,ntmps131;exact Of
theorem L2(s:C2)(w:C3):Cy 49 #[s] w (Cw (xn s.data.toList) w):=by
 rw[<-Ym];go_enter func49,ntmps49;exact Of
theorem rM{B:Nat}{a w:C3}(b:Below B a w)(c:B<=w.heap.size)(s:C2)(d:Nat):Below B a (w.iter s d):=b.alloc c _
theorem v9(s:C2)(a:Nat)(b:a<s.size):s.data.toList[a]?=some s[a]:=by
 rw[Array.getElem?_toList];exact Array.getElem?_eq_getElem b
theorem QD{s:C2}{c:Nat}(g:c<s.size)(d:∀(j:Nat) b,j<c->s.data.toList[j]?=some b->qp b=true)(f:qp s[c]=true):
 ∀(j:Nat) b,j<c+1->s.data.toList[j]?=some b->qp b=true:=by
 intro j b _ a;by_cases e:j=c
 .subst e
  rw[v9 s j g]at a;injection a with a;exact a▸f
 .exact d j b O a
theorem x7{s:C2}{a:Nat}(e:a<=s.size)(f:∀(j:Nat) b,j<a->s.data.toList[j]?=some b->qp b=true)(g:∀e:a<s.size,qp s[a]=false):
 xL s.data.toList=a:=
 l1 qp _ a e f (fun b c=>by
  have d:a<s.size:=(List.getElem?_eq_some_iff.1 c).1;rw[v9 s a d]at c;injection c with c
  exact c▸g d)
theorem QE(s:C2)(w:C3):Cy 130 #[s] w (Cv (xL s.data.toList:Int) w):=by
 have v:s.data.toList.length=s.size:=rfl;go_enter func130,ntmps130;go_wp2
 go_loopw [3] (fun _ w'=>∃a:Nat,w'=w.iter s a/\a<=s.size/\∀(j:Nat) b,j<a->s.data.toList[j]?=some b->qp b=true) (fun _ w'=>s.size-w'.iterPos w.heap.size)
 case atStart=>exact⟨0,rfl,Dx _,fun j b t=>absurd t O⟩
 case round=>
  obtain⟨a,rfl,p,l⟩:=hrel;have g:=U l;clear l;by_cases c:a<s.size
  .have m:∀f,(Instr.next (.pointer (some ⟨w.heap.size,0,none⟩)) true f).run Tryz.prog (w.iter s a)=_:=fun f=>run_next_any w s a f c
   by_cases d:qp s[a]=true
   .have k:=LZ _ d
    rw[decode_ascii s a c k]at m
    have n:uI (s[a].toNat:Int)=true\/g8 (s[a].toNat:Int)=true:=by
     rw[iS,iT];simpa[qp]using d
    have q:=U n;have i:=U d;clear n d;go_wp2_with (first|(go_at_call 151;(with_reducible refine(rL _ _).mono ?_);rintro e w' ⟨rfl,rfl⟩)|(go_at_call 129;(with_reducible refine(nR _ _).mono ?_);rintro e w' ⟨rfl,rfl⟩))
    all_goals first
     | (go_roundw
        case rel=>exact⟨a+1,rfl,c,QD c g.o i.o⟩
        case measure=>simp;omega)
     |(exfalso;have:=q.o;simp_all;done)
   .have i:=U d
    have u:uI ((Utf8.decode s a).1 :Int)=false/\g8 ((Utf8.decode s a).1 :Int)=false:=by
     by_cases k:s[a].toNat<128
     .rw[decode_ascii s a c k]
      show uI (s[a].toNat:Int)=false/\g8 (s[a].toNat:Int)=false;rw[iS,iT];simpa[qp]using d
     .have:=(decode_high s a c O).1
      exact⟨LX _ O,LY _ O⟩
    obtain⟨_,_⟩:=u;clear d;go_wp2_with (first|(go_at_call 151;(with_reducible refine(rL _ _).mono ?_);rintro e w' ⟨rfl,rfl⟩)|(go_at_call 129;(with_reducible refine(nR _ _).mono ?_);rintro e w' ⟨rfl,rfl⟩));go_ret;refine⟨qK ?_,rM Zb Zr _ _⟩;rw[x7 p g.o (fun _=>by simpa using i.o)]
  .have m:∀f,(Instr.next (.pointer (some ⟨w.heap.size,0,none⟩)) true f).run Tryz.prog (w.iter s a)=_:=fun f=>run_next_end w s a f c
   go_wp2;go_ret;refine⟨qK ?_,rM Zb Zr _ _⟩;have e:a=s.size:=O
   subst e;rw[x7 p g.o (fun r=>absurd r c)]
theorem B0(s:C2)(h:0<s.size):s.data.toList.headD 0=s[0]:=by
 have:=v9 s 0 h;cases hl:s.data.toList with
 |nil=>rw[hl]at this;cases this
 |cons a t=>rw[hl]at this;simpa using this
theorem yW(s:C2)(h:s.size=0):s.data.toList=[]:=Yq h
theorem ju(s:C2)(_:0<s.size):s.data.toList≠[]:=fun e=>by have:s.data.toList.length=s.size:=rfl;rw[e]at this;simp at this;omega
theorem QF(s:C2)(w:C3)(b:s.size=0):Cy 106 #[s] w (Cw false w):=by
 have a:=yW s b;have c:s.toList.isEmpty=true:=by rw[Ym,a];rfl
 have d:s.toList=[]:=by rw[Ym,a]
 exact Oi
theorem L3(s:C2)(w:C3)(b:20<s.size):Cy 106 #[s] w (Cw false w):=by
 have a:=ju s O;have d:s.toList.isEmpty=false:=by rw[Ym];simpa using a
 have c:decide ((20 :Int)<s.size)=true:=Ug
 exact Oi
theorem QG(c:Int)(b:Bool)(h:g8 c=b)(w:C3):Cy 129 #[.int .i32 c] w (Cw b w):=h▸nR c w
theorem VY(s:C2)(n:Nat)(h:xL s.data.toList=n)(w:C3):Cy 130 #[s] w (Cv (n:Int) w):=h▸QE s w
theorem VZ(s:C2)(b:Bool)(h:xn s.data.toList=b)(w:C3):Cy 131 #[s] w (Cw b w):=h▸QC s w
theorem HR(s:C2)(w:C3)(m:0<s.size)(_:s.size<=20)(a:Bool)(n:Nat)(b:Bool)(c:g8 (wrap32 (s[0].toNat:Int))=a)(d:xL s.data.toList=n)(f:xn s.data.toList=b):
 Cy 106 #[s] w (Cv ((!a)&&decide (n=s.size)&&!b) w):=by
 have g:=ju s m;have q:s.toList.isEmpty=false:=by rw[Ym];simpa using g
 have p:decide ((20 :Int)<s.size)=false:=Ug
 have i:=U c;have j:=U d;have k:=U f;clear g c d f;cases a
 all_goals
  go_enter func106,ntmps106;go_wp2_with (first|(go_at_call 129;(with_reducible refine(QG _ _ i.o _).mono ?_);rintro e w' ⟨rfl,rfl⟩)|(go_at_call 130;(with_reducible refine(VY _ _ j.o _).mono ?_);rintro e _ ⟨rfl,l⟩)|(go_at_call 131;(with_reducible refine(VZ _ _ k.o _).mono ?_);rintro e w' ⟨rfl,rfl⟩))
 all_goals go_ret
 all_goals first
  |(refine⟨zC ?_,l⟩;simp;intros;omega)
  |(refine⟨zC ?_,D4 _ _⟩;simp;done)
theorem QH(s:C2)(w:C3):Cy 106 #[s] w (Cv (xG s.data.toList) w):=by
 have f:s.data.toList.length=s.size:=rfl;by_cases c:s.size=0
 .rw[yW s c,x5]
  exact(QF s w c).mono fun e w' ⟨a,k⟩=>⟨a,k▸D4 _ _⟩
 by_cases d:20<s.size
 .rw[rJ _ O]
  exact(L3 s w d).mono fun e w' ⟨a,k⟩=>⟨a,k▸D4 _ _⟩
 .have b:0<s.size:=by omega
  rw[P9 _ (ju s b) O,B0 s b,<-iT];refine HR s w b O _ _ _ ?_ rfl rfl;rw[IntWalk.wrap32_in _ (by have:=s[0].toNat_lt;omega)]
theorem yX{B:Nat}{a w:C3}(h:Below B a w)(n:Nat):Below B a (w.drewN n):=⟨h.os,h.tape,h.output,h.size,h.block⟩
theorem V0(s:C2)(b:Bool)(h:xG s.data.toList=b)(w:C3):Cy 106 #[s] w (Cv b w):=h▸QH s w
section
variable {P:Program}
end
theorem jW(c:Int)(b:Bool)(h:uI c=b)(w:C3):Cy 47 #[.int .u8 c] w (Cw b w):=h▸DU c w
theorem nS(c:Int)(b:Bool)(h:g8 c=b)(w:C3):Cy 48 #[.int .u8 c] w (Cw b w):=h▸HQ c w
theorem xM(s:C2)(b:Bool)(h:xn s.data.toList=b)(w:C3):Cy 49 #[s] w (Cw b w):=h▸L2 s w
theorem DV{p:UInt8->Bool}{s:C2}(c:∀(j:Nat) b,j<s.size->s.data.toList[j]?=some b->p b=true):s.data.toList.all p=true:=
 List.all_eq_true.2 fun b d=>by
  obtain⟨j,a⟩:=List.mem_iff_getElem?.1 d;exact c j b (by have:=(List.getElem?_eq_some_iff.1 a).1;rwa [<-Yf]at this) a
theorem DW{p:UInt8->Bool}{s:C2}{k:Nat}(c:k<s.size)(a:p s[k]=false):s.data.toList.all p=false:=by
 rw[Ck];intro b;rw[List.all_eq_true.1 b s[k] (List.mem_iff_getElem?.2 ⟨k,v9 s k c⟩)]at a;cases a
theorem x8{p:UInt8->Bool}{s:C2}{c:Nat}(g:c<s.size)(d:∀(j:Nat) b,j<c->s.data.toList[j]?=some b->p b=true)(f:p s[c]=true):
 ∀(j:Nat) b,j<c+1->s.data.toList[j]?=some b->p b=true:=by
 intro j b _ a;by_cases e:j=c
 .subst e
  rw[v9 s j g]at a;injection a with a;exact a▸f
 .exact d j b O a
theorem L4(s:C2)(w:C3)(b:s.size=0):Cy 50 #[s] w (Cw false w):=by
 have a:=yW s b;have c:s.toList.isEmpty=true:=by rw[Ym,a];rfl
 have d:s.toList=[]:=by rw[Ym,a]
 clear a b;go_enter func50,ntmps50;go_wp2;go_ret;exact⟨rfl,rfl⟩
theorem HS(s:C2)(w:C3)(b:20<s.size):Cy 50 #[s] w (Cw false w):=by
 have a:=ju s O;have d:s.toList.isEmpty=false:=by rw[Ym];simpa using a
 have c:decide ((20 :Int)<s.size)=true:=Ug
 clear a b;go_enter func50,ntmps50;go_wp2;go_ret;exact⟨rfl,rfl⟩
theorem rN(s:C2)(w:C3)(k:0<s.size)(_:s.size<=20)(a b:Bool)(c:uI (s[0].toNat:Int)=a)(d:xn s.data.toList=b)(j:a=false\/b=true):
 Cy 50 #[s] w (Cw false w):=by
 have f:=ju s k;have m:s.toList.isEmpty=false:=by rw[Ym];simpa using f
 have l:decide ((20 :Int)<s.size)=false:=Ug
 have g:=U c;have i:=U d;clear f c d;cases a<;>cases b<;>simp at j
 all_goals
  go_enter func50,ntmps50;go_wp2_with (first|(go_at_call 47;(with_reducible refine(jW _ _ g.o _).mono ?_);rintro e w' ⟨rfl,rfl⟩)|(go_at_call 49;(with_reducible refine(xM _ _ i.o _).mono ?_);rintro e w' ⟨rfl,rfl⟩));go_ret;exact⟨rfl,rfl⟩
theorem HT(s:C2)(w:C3)(B:0<s.size)(_:s.size<=20)(n:uI (s[0].toNat:Int)=true)(p:xn s.data.toList=false)(b:Bool)(r:s.data.toList.all qp=b):
 Cy 50 #[s] w (Cw b w):=by
 have u:=ju s B;have D:s.toList.isEmpty=false:=by rw[Ym];simpa using u
 have C:decide ((20 :Int)<s.size)=false:=Ug
 have v:=U n;have x:=U p;have f:=U r;clear u n p r;go_enter func50,ntmps50;go_wp2_with (first|(go_at_call 47;(with_reducible refine(jW _ _ v.o _).mono ?_);rintro e w' ⟨rfl,rfl⟩)|(go_at_call 49;(with_reducible refine(xM _ _ x.o _).mono ?_);rintro e w' ⟨rfl,rfl⟩))
 go_loop [3] (fun i=>∃k:Nat,k<=s.size/\i=.int .i64 k/\∀(j:Nat) b,j<k->s.data.toList[j]?=some b->qp b=true) (fun i=>s.size-(intOf i).toNat)
 case atStart=>exact⟨0,Dx _,rfl,fun j b A=>absurd A O⟩
 case round=>
  obtain⟨k,_,rfl,q⟩:=hrel;have d:=U q;clear q;by_cases t:k<s.size
  .obtain⟨l,a⟩:=Cz (uI (s[k].toNat:Int))
   obtain⟨m,c⟩:=Cz (g8 (s[k].toNat:Int));have g:Do (qp s[k]=(l || m)):=by unfold Do qp;rw[<-a,<-c,iS,iT]
   have y:=U a;have z:=U c;clear a c;cases l<;>cases m
   all_goals
    go_wp2_with (first|(go_at_call 47;(with_reducible refine(jW _ _ y.o _).mono ?_);rintro e w' ⟨rfl,rfl⟩)|(go_at_call 48;(with_reducible refine(nS _ _ z.o _).mono ?_);rintro e w' ⟨rfl,rfl⟩))
   .go_ret
    exact⟨zC ((DW t g.o).symm.trans f.o),rfl⟩
   all_goals
    go_round
    case rel=>exact⟨k+1,O,by go_num,x8 t d.o g.o⟩
    case measure=>simp[intOf];omega
  .have e:k=s.size:=by omega
   subst e;go_wp2;go_ret;exact⟨zC ((DV d.o).symm.trans f.o),rfl⟩
theorem L5(s:C2)(w:C3):Cy 50 #[s] w (Cw (xG s.data.toList) w):=by
 by_cases c:s.size=0
 .rw[yW s c,x5]
  exact L4 s w c
 by_cases d:20<s.size
 .rw[rJ _ (by rw[<-Yf];exact d)]
  exact HS s w d
 .have a:0<s.size:=by omega
  have i:xG s.data.toList=(uI (s[0].toNat:Int)&&s.data.toList.all qp&&!xn s.data.toList):=by
   unfold xG;rw[B0 s a,<-iS];have f:s.data.toList.isEmpty=false:=by simpa using ju s a
   have g:s.data.toList.length<=20:=by rw[<-Yf];omega
   rw[f,decide_eq_true g];rfl
  rw[i];cases h1:uI (s[0].toNat:Int)with
  |false=>exact rN s w a O _ _ h1 rfl (.inl rfl)
  |true=>
    cases h2:xn s.data.toList with
    |true=>exact(rN s w a O _ _ h1 h2 (.inr rfl)).mono fun e w' ⟨b,k⟩=>⟨by simp[b],k⟩
    |false=>exact(HT s w a O h1 h2 _ rfl).mono fun e w' ⟨b,k⟩=>⟨by simp[b],k⟩
theorem rO(s:C2)(b:Bool)(h:xG s.data.toList=b)(w:C3):Cy 50 #[s] w (Cw b w):=h▸L5 s w
theorem iU{s:C2}{k:Nat}(h:k<s.size):s.data.toList.take (k+1)=s.data.toList.take k++[s[k]]:=by
 rw[Yt,v9 s k h];rfl
theorem l2(l:List UInt8)(k:Nat):kS 0 (l.take k)<=kS 0 l:=by
 have e:kS 0 l=kS (kS 0 (l.take k)) (l.drop k):=by rw[<-DT,Cs]
 rw[e];exact VX _ _
theorem ui(s:C2)(k:Nat)(a:k<s.size)(c:Int)(b:(s[k].toNat:Int)=c)(w:C3):(Instr.index 9 (.string s) (.int .i64 k)).run Tryz.prog w=.ok (.int .u8 c) w:=by
 subst b;have d:(0 :Int)<=(k:Int):=O
 simp[Instr.index,run_underlying underlying9,asIntOf,go_sem,a]
theorem o4(s:C2)(a:0<s.size)(c:Int)(b:(s[0].toNat:Int)=c)(w:C3):(Instr.index 9 (.string s) (.int .i64 0)).run Tryz.prog w=.ok (.int .u8 c) w:=ui s 0 a c b w
def V1(l:List UInt8)(w:C3)(e:Ending)(w':C3):Prop:=∃r,e=.returned (r:Int)/\decide (0<=r)=xK l/\w=w'
theorem QI{s:C2}{k:Nat}(a:k<s.size)(b:s.data.toList.all ki=true):48<=s[k].toNat/\s[k].toNat<=57:=by
 have:=List.all_eq_true.1 b s[k] (List.mem_iff_getElem?.2 ⟨k,v9 s k a⟩);simpa[ki]using this
theorem y0(s:C2)(k m:Nat)(a:k<s.size)(e:m=kS 0 (s.data.toList.take k))(c:Int)(_:(s[k].toNat:Int)=c)(_:48<=c)(_:(9223372036854775807-(c-48)) / 10<(m:Int)):xK s.data.toList=false:=by
 have b:=l2 s.data.toList (k+1);rw[iU a,iR,<-e]at b;have d:¬kS 0 s.data.toList<9223372036854775808:=O
 unfold xK;rw[decide_eq_false d,Bool.and_false]
theorem DX(s:C2)(d:0<s.size)(f:s.data.toList.all ki=true)(i:kS 0 s.data.toList<9223372036854775808):xK s.data.toList=(decide (s.size=1) || decide (s[0].toNat≠48)):=by
 unfold xK;have c:s.data.toList.isEmpty=false:=by simpa using ju s d
 rw[f,decide_eq_true i,c];have g:=B0 s d;have j:s.size=s.data.toList.length:=rfl;rw[<-g,j];generalize s.data.toList=l at *;cases l with
 |nil=>simp at c
 |cons a t=>
   simp only[Co,D1];rw[Yk];cases t with
   |nil=>
     simp;by_cases e:a=48
     .exact .inl e
     .exact .inr e
   |cons b r=>
     simp[<-UInt8.toNat_inj]
     all_goals exact decide_eq_true_iff.symm
theorem HU(s:C2)(w:C3)(g:0<s.size)(_:s.size<=281474976710656)(q:s.data.toList.all ki=true):
 Cy 57 #[s] w (V1 s.data.toList w):=by
 have t:=ju s g;have F:s.toList.isEmpty=false:=by rw[Ym];simpa using t
 have l:=U q;clear t q;go_enter func57,ntmps57;go_wp2
 go_loop [3,4,5] (fun n i _=>∃(k m:Nat),k<=s.size/\i=.int .i64 k/\n=.int .i64 m/\m=kS 0 (s.data.toList.take k)/\m<9223372036854775808) (fun _ i _=>s.size-(intOf i).toNat)
 case atStart=>exact⟨0,0,Dx _,rfl,rfl,by rw[Yx,g6],O⟩
 case round=>
  obtain⟨k,m,_,rfl,rfl,r,x⟩:=hrel;have d:=U r;clear r;by_cases b:k<s.size
  .obtain⟨c,a⟩:∃c:Int,(s[k].toNat:Int)=c:=⟨_,rfl⟩
   have z:=ui s k b c a;have j:=U a;have y:=QI b l.o;have v:48<=c:=O
   have E:c<=57:=O
   clear a y;by_cases B:(9223372036854775807-(c-48)) / 10<(m:Int)
   .go_wp2
    go_ret;exact⟨-1,rfl,by rw[y0 s k m b d.o c j.o v B];rfl,rfl⟩
   .go_wp2
    have C:=j.o;have A:((m*10+(s[k].toNat-48):Nat):Int)=(m:Int)*10+(c-48):=O
    go_round
    case rel=>exact⟨k+1,m*10+(s[k].toNat-48),O,by go_num,by rw[A],by rw[iU b,iR,<-d.o],O⟩
    case measure=>simp[intOf];omega
  .have e:k=s.size:=by omega
   subst e
   have u:Do (m=kS 0 s.data.toList):=by
    unfold Do;rw[d.o,Ye (by rw[<-Yf];exact D0 _)]
   obtain⟨c,a⟩:∃c:Int,(s[0].toNat:Int)=c:=⟨_,rfl⟩
   have z:=o4 s g c a
   have f:Do (xK s.data.toList=(decide (s.size=1) || decide (c≠48))):=by
    unfold Do;rw[DX s g l.o (by rw[<-u.o];exact x)];congr 1;rw[Yk];simp;omega
   clear a;by_cases D:1<s.size
   .by_cases p:c=48
    .subst p
     go_wp2;go_ret;refine⟨-1,rfl,?_,rfl⟩;rw[f.o,decide_eq_false (show ¬s.size=1 by omega)];rfl
    .go_wp2
     go_ret;refine⟨m,rfl,?_,rfl⟩;rw[f.o,decide_eq_true p,Bool.or_true];simp
   .go_wp2
    go_ret;refine⟨m,rfl,?_,rfl⟩;rw[f.o,decide_eq_true (show s.size=1 by omega),Bool.true_or];simp
theorem DY{s:C2}(h:s.data.toList.all ki=false):xK s.data.toList=false:=by
 unfold xK;rw[h];simp
theorem o5(s:C2)(w:C3)(x:0<s.size)(y:s.size<=281474976710656)(b:Bool)(m:xK s.data.toList=b):
 Cy 51 #[s] w (Cw b w):=by
 have d:=U m;clear m;go_enter func51,ntmps51;go_wp2
 go_loop [3] (fun i=>∃k:Nat,k<=s.size/\i=.int .i64 k/\∀(j:Nat) b,j<k->s.data.toList[j]?=some b->ki b=true) (fun i=>s.size-(intOf i).toNat)
 case atStart=>exact⟨0,Dx _,rfl,fun j b v=>absurd v O⟩
 case round=>
  obtain⟨k,_,rfl,l⟩:=hrel;have c:=U l;clear l;by_cases n:k<s.size
  .obtain⟨g,a⟩:=Cz (g8 (s[k].toNat:Int))
   have f:Do (ki s[k]=g):=by unfold Do;rw[<-a,iT]
   have q:=U a;clear a;cases g
   all_goals
    go_wp2_with (go_at_call 48;(with_reducible refine(nS _ _ q.o _).mono ?_);rintro e w' ⟨rfl,rfl⟩)
   .go_ret
    exact⟨zC ((DY (DW n f.o)).symm.trans d.o),rfl⟩
   .go_round
    case rel=>exact⟨k+1,O,by go_num,x8 n c.o f.o⟩
    case measure=>simp[intOf];omega
  .have e:k=s.size:=by omega
   subst e;have t:=U (DV c.o);go_wp2_with (go_at_call 57;(with_reducible refine(HU _ _ x y t.o).mono ?_);rintro e w' ⟨r,rfl,p,rfl⟩;have u:=U p;clear p);go_ret;exact⟨zC (u.o.trans d.o),rfl⟩
end Go.Proofs.YthcmenajdcbnnaaGreatDoor
namespace Go.Proofs.YthcmenajdcbnnaaGreatDoor
open Tryz
open Go.RowKit (wrap64 wrap32)
theorem jv(z:Int):(((BitVec.ofInt 64 z).toNat:Nat):Int)=z % 18446744073709551616:=by
 rw[BitVec.toNat_ofInt];have:(0 :Int)<=z % 18446744073709551616:=O
 show(((z % 18446744073709551616).toNat:Nat):Int)=_;omega
theorem yo(z:Int)(j:Nat)(d:j<=63):bits .and .i64 z ((2 ^ j-1 :Nat):Int)=z % (2 ^ j:Nat):=by
 have m:2 ^ j<=2 ^ 63:=Nat.pow_le_pow_right Uf d;have g:1<=2 ^ j:=Nat.one_le_two_pow;have f:=jv z;show IntKind.i64.wrap ((BitVec.ofInt 64 z &&& BitVec.ofInt 64 ((2 ^ j-1 :Nat):Int)).toNat:Nat)=_;rw[BitVec.toNat_and]
 have e:(BitVec.ofInt 64 ((2 ^ j-1 :Nat):Int)).toNat=2 ^ j-1:=by
  exact Ob
 rw[e,Nat.and_two_pow_sub_one_eq_mod]
 have a:(((2 ^ j:Nat):Int)) ∣ 18446744073709551616:=by
  exact Oc
 have c:(((BitVec.ofInt 64 z).toNat % 2 ^ j:Nat):Int)=z % (2 ^ j:Nat):=by
  rw[Int.natCast_emod,f,Int.emod_emod_of_dvd _ a]
 rw[c];have k:=Int.emod_nonneg z (b:=((2 ^ j:Nat):Int)) O;have l:=Int.emod_lt_of_pos z (b:=((2 ^ j:Nat):Int)) O;rw[IntKind.wrap_i64];omega
theorem B1(z:Int)(j:Nat)(d:j<=63):bits .and .u64 z ((2 ^ j-1 :Nat):Int)=z % (2 ^ j:Nat):=by
 have m:2 ^ j<=2 ^ 63:=Nat.pow_le_pow_right Uf d;have g:1<=2 ^ j:=Nat.one_le_two_pow;have f:=jv z;show IntKind.u64.wrap ((BitVec.ofInt 64 z &&& BitVec.ofInt 64 ((2 ^ j-1 :Nat):Int)).toNat:Nat)=_;rw[BitVec.toNat_and]
 have e:(BitVec.ofInt 64 ((2 ^ j-1 :Nat):Int)).toNat=2 ^ j-1:=by
  exact Ob
 rw[e,Nat.and_two_pow_sub_one_eq_mod]
 have a:(((2 ^ j:Nat):Int)) ∣ 18446744073709551616:=by
  exact Oc
 have c:(((BitVec.ofInt 64 z).toNat % 2 ^ j:Nat):Int)=z % (2 ^ j:Nat):=by
  rw[Int.natCast_emod,f,Int.emod_emod_of_dvd _ a]
 rw[c];have k:=Int.emod_nonneg z (b:=((2 ^ j:Nat):Int)) O;have l:=Int.emod_lt_of_pos z (b:=((2 ^ j:Nat):Int)) O;rw[IntKind.wrap_u64];omega
theorem L6(b:Int):bits .and .i64 b 63=b % 64:=yo b 6 Uf
theorem L7(b:Int):bits .and .u64 b 63=b % 64:=B1 b 6 Uf
theorem HV(b:Int):bits .and .i64 b 255=b % 256:=yo b 8 Uf
theorem B2(b:Int):bits .and .i64 b 65535=b % 65536:=yo b 16 Uf
theorem l3(b:Int):bits .and .i64 b 4294967295=b % 4294967296:=yo b 32 Uf
theorem DZ(x i:Nat)(g:x<2 ^ (i+1)):x ^^^ 2 ^ i=if x<2 ^ i then x+2 ^ i else x-2 ^ i:=by
 have k:2 ^ (i+1)=2*2 ^ i:=by rw[Nat.pow_succ];omega
 split
 .rename_i d
  have c:x+2 ^ i=2 ^ i ||| x:=by rw[Nat.add_comm];exact Nat.two_pow_add_eq_or_of_lt d 1 |> fun e=>Vr
  rw[c];apply Nat.eq_of_testBit_eq;intro j;rw[Nat.testBit_xor,Nat.testBit_or,Nat.testBit_two_pow];by_cases a:i=j
  .subst a;simp[Nat.testBit_lt_two_pow d]
  .simp[a]
 .rename_i d
  obtain⟨b,rfl⟩:∃b,x=2 ^ i+b:=⟨x-2 ^ i,O⟩
  have f:b<2 ^ i:=O
  have c:2 ^ i+b=2 ^ i ||| b:=Nat.two_pow_add_eq_or_of_lt f 1 |> fun e=>Vr
  rw[Nat.add_sub_cancel_left,c];apply Nat.eq_of_testBit_eq;intro j;rw[Nat.testBit_xor,Nat.testBit_or,Nat.testBit_two_pow];by_cases a:i=j
  .subst a;simp[Nat.testBit_lt_two_pow f]
  .simp[a]
theorem hG(z:Int)(i:Nat)(d:i<=62)(c:0<=z)(_:z<(2 ^ (i+1):Nat)):bits .xor .i64 z ((2 ^ i:Nat):Int)=if z<(2 ^ i:Nat)then z+(2 ^ i:Nat)else z-(2 ^ i:Nat):=by
 have g:2 ^ (i+1)=2*2 ^ i:=by rw[Nat.pow_succ];omega
 have j:2 ^ i<=2 ^ 62:=Nat.pow_le_pow_right Uf d;obtain⟨n,rfl⟩:=Int.eq_ofNat_of_zero_le c;have e:=jv (n:Int);have f:=jv ((2 ^ i:Nat):Int);have a:(BitVec.ofInt 64 (n:Int)).toNat=n:=O
 have b:(BitVec.ofInt 64 ((2 ^ i:Nat):Int)).toNat=2 ^ i:=O
 show IntKind.i64.wrap ((BitVec.ofInt 64 (n:Int) ^^^ BitVec.ofInt 64 ((2 ^ i:Nat):Int)).toNat:Nat)=_;rw[BitVec.toNat_xor,a,b,DZ n i O,IntKind.wrap_i64];split<;>split<;>omega
theorem ZW(a:Int):(bits .xor .i64 (a % 256) 128)-128=IntKind.i8.wrap a:=by
 have:=hG (a % 256) 7 Uf O O;exact Oa
theorem V2(a:Int):(bits .xor .i64 (a % 65536) 32768)-32768=IntKind.i16.wrap a:=by
 have:=hG (a % 65536) 15 Uf O O;exact Oa
theorem V3(a:Int):(bits .xor .i64 (a % 4294967296) 2147483648)-2147483648=IntKind.i32.wrap a:=by
 have:=hG (a % 4294967296) 31 Uf O O;exact Oa
theorem V4(a:Int)(b:(Lit.int .i64 a).wf=true):bits .xor .i64 (-1) a= -1-a:=by
 have d:=bounds_i64 b;have c:=jv a;show IntKind.i64.wrap ((BitVec.ofInt 64 (-1) ^^^ BitVec.ofInt 64 a).toNat:Nat)=_
 have e:BitVec.ofInt 64 (-1) ^^^ BitVec.ofInt 64 a= ~~~ (BitVec.ofInt 64 a):=by
  have:(BitVec.ofInt 64 (-1))=BitVec.allOnes 64:=Uf
  rw[this,BitVec.allOnes_xor]
 rw[e,BitVec.toNat_not,IntKind.wrap_i64];have:=(BitVec.ofInt 64 a).isLt;omega
def rP(op a:Int):Int:=
 if op=20 then wrap64 (-a)else if op=21 then -1-a else if op=22 then(if a=0 then 1 else 0)else if op=23 then IntKind.i8.wrap a else if op=24 then IntKind.i16.wrap a
 else if op=25 then wrap32 a else if op=26 then a % 256 else if op=27 then a % 65536 else if op=28 then a % 4294967296 else 0
theorem uJ{n:Int}(_: -9223372036854775808<=n/\n<=9223372036854775807):wrap64 n=n:=by unfold wrap64;omega
theorem ZB(a:Int): -128<=IntKind.i8.wrap a/\IntKind.i8.wrap a<=127:=by
 exact Oh
theorem QJ(a:Int): -32768<=IntKind.i16.wrap a/\IntKind.i16.wrap a<=32767:=by
 exact Oh
theorem ZX(a:Int):IntKind.u16.wrap a=a % 65536:=by
 simp only[IntKind.wrap,IntKind.bits,IntKind.signed];simp
theorem ZY(a:Int):IntKind.i32.wrap a=wrap32 a:=IntWalk.i32_left a
theorem za9(a:Int):wrap64 (IntKind.i8.wrap a)=IntKind.i8.wrap a:=uJ (by have:=ZB a;omega)
theorem ZC(a:Int):wrap64 (IntKind.i16.wrap a)=IntKind.i16.wrap a:=uJ (by have:=QJ a;omega)
theorem zba(a:Int):wrap64 (IntKind.u16.wrap a)=a % 65536:=by rw[ZX];exact uJ O
theorem ZD(a:Int):wrap64 (wrap32 a)=wrap32 a:=uJ Jo
theorem zbb(a:Int)(h:(Lit.int .i64 a).wf=true):wrap64 (-1-a)= -1-a:=uJ (by have:=bounds_i64 h;omega)
theorem zcg(a:Int):wrap64 (bits .xor .i64 (a % 256) 128-128)=IntKind.i8.wrap a:=by rw[ZW];exact za9 a
theorem zbc(a:Int):wrap64 (bits .xor .i64 (a % 65536) 32768-32768)=IntKind.i16.wrap a:=by rw[V2];exact ZC a
theorem zbd(a:Int):wrap64 (bits .xor .i64 (a % 4294967296) 2147483648-2147483648)=wrap32 a:=by rw[V3,ZY];exact ZD a
def cnt(b:Int):Nat:=(b % 64).toNat
def L8(b:Bool):Int:=if b then 1 else 0
def uj(op b:Int):Bool:=decide (1<=op)&&decide (op<=17)&&!((decide (op=4) || decide (op=5))&&decide (b=0))
def cmp(op a b:Int):Bool:=
 if op=12 then decide (a<b)else if op=13 then decide (a<=b)else if op=14 then decide (b<a)else if op=15 then decide (b<=a)else if op=16 then a == b else a != b
def sft(op a b:Int):Int:=
 if op=9 then wrap64 (a*2 ^ cnt b)else if op=10 then a / 2 ^ cnt b else wrap64 (a % 18446744073709551616 / 2 ^ cnt b)
def ZZ(op a b:Int):Int:=if b=0 then 0 else if op=4 then wrap64 (a.tdiv b)else a.tmod b
def uC(op a b:Int):Int:=
 if op=1 then wrap64 (a+b)else if op=2 then wrap64 (a-b)else if op=3 then wrap64 (a*b)
 else if op=4\/op=5 then ZZ op a b
 else if op=6 then bits .and .i64 a b else if op=7 then bits .or .i64 a b else if op=8 then bits .xor .i64 a b
 else if op=9\/op=10\/op=11 then sft op a b else if 12<=op/\op<=17 then L8 (cmp op a b)else 0
theorem HW(b:Int):bits .and .u64 (IntKind.u64.wrap b) 63=b % 64:=by rw[L7,IntKind.wrap_u64];omega
theorem EA(op a b:Int)(_:op<1\/17<op):uC op a b=0:=by
 unfold uC
 repeat(rw[Dp O])
theorem EB(op b:Int)(h:op<1\/17<op):uj op b=false:=by
 unfold uj;rcases h with h|h
 .have:decide (1<=op)=false:=by simpa using h
  simp[this]
 .have:decide (op<=17)=false:=by simpa using h
  simp[this]
def zbg:List (List UInt8):=[[],[43],[45],[42],[47],[37],[38],[124],[94],[60,60],[62,62],[62,62,62],[60],[60,61],[62],[62,61],[61,61],[33,61],[38,38],[124,124],[45],[126],[33],[105,56],[105,49,54],[105,51,50],[117,56],[117,49,54],[117,51,50]]
def zbh:List Int:=[0,9,9,10,10,10,5,3,4,8,8,8,7,7,7,7,6,6,2,1,0,0,0,0,0,0,0,0,0]
def ZE(k:Nat):C2:=⟨(zbg.getD k []).toArray⟩
def lvl(k:Nat):Int:=zbh.getD k 0
def xN(op:Int):C2:=if 1<=op/\op<=28 then ZE op.toNat else⟨#[]⟩
def kD(op:Int):Int:=if 1<=op/\op<=28 then lvl op.toNat else 0
end Go.Proofs.YthcmenajdcbnnaaGreatDoor
namespace Go.Proofs.YthcmenajdcbnnaaGreatDoor
open Go.RowKit Tryz
inductive Ex where
 |mk (kind op n:Int) (name:C2) (args:List Ex)
inductive St where
 |mk (kind type:Int) (name:C2) (args:List Ex) (thn els:List St)
structure Pa where
 name:C2
 type:Int
structure Fu where
 name:C2
 type:Int
 params:List Pa
 body:List St
structure Ar where
 name:C2
 size:Int
structure Pr where
 wa:List Ar
 funcs:List Fu
def Ex.kind:Ex->Int | .mk k _ _ _ _=>k
def Ex.op:Ex->Int | .mk _ o _ _ _=>o
def Ex.n:Ex->Int | .mk _ _ n _ _=>n
def Ex.name:Ex->C2 | .mk _ _ _ s _=>s
def Ex.args:Ex->List Ex | .mk _ _ _ _ l=>l
def uk(s:C2):Bool:=xG s.data.toList
def eB(s:C2):Bool:=decide (s.size=0)
def hH(t:Int):Bool:=decide (t=1\/t=2)
def zl(k op n:Int)(td:C2)(a:Nat):Bool:=
 if k=1 then decide (0<=n)&&decide (op=0)&&eB td&&decide (a=0)
 else if k=2 then decide (n=0\/n=1)&&decide (op=0)&&eB td&&decide (a=0)
 else if k=3 then uk td&&decide (op=0)&&decide (n=0)&&decide (a=0)
 else if k=4 then decide (20<=op/\op<=28)&&decide (n=0)&&eB td&&decide (a=1)
 else if k=5 then decide (0<kD op)&&decide (n=0)&&eB td&&decide (a=2)
 else if k=6 then uk td&&decide (op=0)&&decide (n=0)&&decide (a=1)
 else if k=7 then uk td&&decide (op=0)&&decide (n=0)&&decide (a<=8)
 else if k=8 then decide (op=0)&&decide (n=0)&&eB td&&decide (a=0)
 else false
mutual
def xw:Ex->Nat->Bool
 |.mk k op n td tc,m=>decide (1<=m)&&zl k op n td tc.length&&zx tc (m-1)
def zx:List Ex->Nat->Bool
 |[],_=>true
 |e::r,m=>xw e m&&zx r m
end
def PZ(tc:List Ex):Bool:=match tc with|e::_=>decide (e.kind=7) | []=>false
def zn(k b:Int)(td:C2)(a d c:Nat)(e:Bool):Bool:=
 if k=1 then hH b&&uk td&&decide (a=1)&&decide (d=0)&&decide (c=0)
 else if k=2 then decide (b=0)&&uk td&&decide (a=1)&&decide (d=0)&&decide (c=0)
 else if k=3 then decide (b=0)&&uk td&&decide (a=2)&&decide (d=0)&&decide (c=0)
 else if k=4 then decide (b=0)&&eB td&&decide (a=1)
 else if k=5 then decide (b=0)&&eB td&&decide (a=1)&&decide (c=0)
 else if k=6\/k=7 then decide (b=0)&&eB td&&decide (a=0)&&decide (d=0)&&decide (c=0)
 else if k=8\/k=9 then decide (b=0)&&eB td&&decide (a=1)&&decide (d=0)&&decide (c=0)
 else if k=10 then decide (b=0)&&eB td&&decide (a=1)&&decide (d=0)&&decide (c=0)&&e
 else false
mutual
def uK:St->Nat->Bool
 |.mk k ty td tc tg th,m=>decide (1<=m)&&zn k ty td tc.length tg.length th.length (PZ tc)&&zx tc 100&&fL tg (m-1)&&fL th (m-1)
def fL:List St->Nat->Bool
 |[],_=>true
 |s::r,m=>uK s m&&fL r m
end
def yg(a:Ar):Bool:=uk a.name&&decide (1<=a.size/\a.size<=1000)
def ul(x:Pa):Bool:=uk x.name&&hH x.type
def yh(f:Fu):Bool:=uk f.name&&hH f.type&&decide (f.params.length<=8)&&f.params.all ul&&fL f.body 100
def f5(p:Pr):Bool:=p.wa.all yg&&p.funcs.all yh
def wN(lev:Int)(c:Int×Int×List UInt8):List UInt8:=if c.1=5/\kD c.2.1<lev then 40::(c.2.2++[41])else c.2.2
def yA:List (List UInt8)->List UInt8
 |[]=>[]
 |[x]=>x
 |x::y::r=>x++44::32::yA (y::r)
def ZF(b:Bool):List UInt8:=if b then[116,114,117,101]else[102,97,108,115,101]
def V5(t:Int):List UInt8:=if t=2 then[98,111,111,108]else[105,110,116]
def L9(a:List (Int×Int×List UInt8))(i:Nat):Int×Int×List UInt8:=a.getD i (0,0,[])
def QK(k op n:Int)(td:C2)(a:List (Int×Int×List UInt8)):List UInt8:=
 if k=1 then Lib.itoa n
 else if k=2 then ZF (decide (n=1))
 else if k=3 then td.data.toList
 else if k=4 then(if 23<=op then(xN op).data.toList++40::((L9 a 0).2.2++[41])else(xN op).data.toList++wN 11 (L9 a 0))
 else if k=5 then wN (kD op) (L9 a 0)++32::((xN op).data.toList++32::wN (kD op+1) (L9 a 1))
 else if k=6 then td.data.toList++91::((L9 a 0).2.2++[93])
 else if k=7 then td.data.toList++40::(yA (a.map (·.2.2))++[41])
 else[114,101,97,100,40,41]
mutual
def ye:Ex->List UInt8
 |.mk k op n td tc=>QK k op n td (g1 tc)
def g1:List Ex->List (Int×Int×List UInt8)
 |[]=>[]
 |e::r=>(e.kind,e.op,ye e)::g1 r
end
def opT(lev:Int)(e:Ex):List UInt8:=wN lev (e.kind,e.op,ye e)
def B3(n:Nat):List UInt8:=List.replicate n 9
def j6(tc:List Ex)(i:Nat):List UInt8:=(L9 (g1 tc) i).2.2
def yB(k a:Int)(td:C2)(tc:List Ex):List UInt8:=
 if k=1 then V5 a++32::(td.data.toList++32::61::32::(j6 tc 0++[59]))
 else if k=2 then td.data.toList++32::61::32::(j6 tc 0++[59])
 else if k=3 then td.data.toList++91::(j6 tc 0++93::32::61::32::(j6 tc 1++[59]))
 else if k=4 then 105::102::32::40::(j6 tc 0++[41,32,123])
 else if k=5 then 119::104::105::108::101::32::40::(j6 tc 0++[41,32,123])
 else if k=6 then[98,114,101,97,107,59]
 else if k=7 then[99,111,110,116,105,110,117,101,59]
 else if k=8 then 114::101::116::117::114::110::32::(j6 tc 0++[59])
 else if k=9 then 112::114::105::110::116::40::(j6 tc 0++[41,59])
 else j6 tc 0++[59]
mutual
def P0:St->Nat->List UInt8
 |.mk k ty td tc tg th,t=>
   B3 t++(yB k ty td tc++10 ::
    (if k=4 then xO tg (t+1)++((if th.length=0 then[]else B3 t++([125,32,101,108,115,101,32,123]++10::xO th (t+1)))++(B3 t++[125,10]))
     else if k=5 then xO tg (t+1)++(B3 t++[125,10])else[]))
def xO:List St->Nat->List UInt8
 |[],_=>[]
 |s::r,t=>P0 s t++xO r t
end
def arT(a:Ar):List UInt8:=[105,110,116,32]++(a.name.data.toList++91::(Lib.itoa a.size++[93,59,10]))
def paT(x:Pa):List UInt8:=V5 x.type++32::x.name.data.toList
def V6(f:Fu):List UInt8:=V5 f.type++32::(f.name.data.toList++40::(yA (f.params.map paT)++[41,32,123,10]++(xO f.body 1++[125,10])))
def KG(p:Pr):List UInt8:=(p.wa.map arT).flatten++(p.funcs.map V6).flatten
theorem kB(k op n:Int)(td:C2)(tc:List Ex)(m:Nat):xw (.mk k op n td tc) m=(decide (1<=m)&&zl k op n td tc.length&&zx tc (m-1)):=by rw[xw]
theorem uL(m:Nat):zx [] m=true:=by rw[zx]
theorem qq(e:Ex)(r:List Ex)(m:Nat):zx (e::r) m=(xw e m&&zx r m):=by rw[zx]
theorem q9{l:List Ex}{m:Nat}(c:zx l m=true){i:Nat}{e:Ex}(b:l[i]?=some e):xw e m=true:=by
 induction l generalizing i with
 |nil=>simp at b
 |cons a r d=>
   rw[qq,D2]at c;exact Og
theorem MA(a b:List Ex)(m:Nat):zx (a++b) m=(zx a m&&zx b m):=by
 induction a with
 |nil=>simp[uL]
 |cons e r c=>rw[Yv,qq,qq,c,Bool.and_assoc]
theorem lI{l:List Ex}{m i:Nat}{e:Ex}(a:l[i]?=some e):zx (l.take (i+1)) m=(zx (l.take i) m&&xw e m):=by
 rw[Yt,a];simp only[Option.toList_some];rw[MA,qq,uL,Bool.and_true]
theorem yw{l:List Ex}{m i:Nat}{e:Ex}(c:l[i]?=some e)(a:xw e m=false):zx l m=false:=by
 rw[Ck];intro b;rw[q9 b c]at a;cases a
theorem jn(k a:Int)(td:C2)(tc:List Ex)(tg th:List St)(m:Nat):uK (.mk k a td tc tg th) m=(decide (1<=m)&&zn k a td tc.length tg.length th.length (PZ tc)&&zx tc 100&&fL tg (m-1)&&fL th (m-1)):=by rw[uK]
theorem iV(m:Nat):fL [] m=true:=by rw[fL]
theorem ko(e:St)(r:List St)(m:Nat):fL (e::r) m=(uK e m&&fL r m):=by rw[fL]
theorem l4{l:List St}{m:Nat}(c:fL l m=true){i:Nat}{e:St}(b:l[i]?=some e):uK e m=true:=by
 induction l generalizing i with
 |nil=>simp at b
 |cons a r d=>
   rw[ko,D2]at c;exact Og
theorem MB(a b:List St)(m:Nat):fL (a++b) m=(fL a m&&fL b m):=by
 induction a with
 |nil=>simp[iV]
 |cons e r c=>rw[Yv,ko,ko,c,Bool.and_assoc]
theorem kT{l:List St}{m i:Nat}{e:St}(a:l[i]?=some e):fL (l.take (i+1)) m=(fL (l.take i) m&&uK e m):=by
 rw[Yt,a];simp only[Option.toList_some];rw[MB,ko,iV,Bool.and_true]
theorem ze{l:List St}{m i:Nat}{e:St}(c:l[i]?=some e)(a:uK e m=false):fL l m=false:=by
 rw[Ck];intro b;rw[l4 b c]at a;cases a
theorem nT(k op n:Int)(td:C2)(tc:List Ex):ye (.mk k op n td tc)=QK k op n td (g1 tc):=by rw[ye]
theorem hI(l:List Ex):g1 l=l.map fun e=>(e.kind,e.op,ye e):=by
 induction l with
 |nil=>rw[g1];rfl
 |cons e r a=>rw[g1,a];rfl
theorem Z0{l:List Ex}{i:Nat}{e:Ex}(h:l[i]?=some e):L9 (g1 l) i=(e.kind,e.op,ye e):=by
 unfold L9;rw[hI,Yl,Yn,h];rfl
theorem KH{l:List Ex}{i:Nat}{e:Ex}(h:l[i]?=some e):j6 l i=ye e:=by unfold j6;rw[Z0 h]
theorem rQ(l:List (List UInt8))(x:List UInt8):yA (l++[x])=yA l++((if l.length=0 then[]else[44,32])++x):=by
 induction l with
 |nil=>simp[yA]
 |cons a r c=>
   cases r with
   |nil=>simp[yA]
   |cons b t=>
     have e:(a::b::t)++[x]=a::b::(t++[x]):=rfl;rw[e,yA,yA]
     have d:yA (b::(t++[x]))=yA (b::t)++([44,32]++x):=by
      have:=c;simpa using this
     rw[d];simp
theorem HX(k a:Int)(td:C2)(tc:List Ex)(tg th:List St)(t:Nat):P0 (.mk k a td tc tg th) t=
 B3 t++(yB k a td tc++10 ::
  (if k=4 then xO tg (t+1)++((if th.length=0 then[]else B3 t++([125,32,101,108,115,101,32,123]++10::xO th (t+1)))++(B3 t++[125,10]))
   else if k=5 then xO tg (t+1)++(B3 t++[125,10])else[])):=by rw[P0]
theorem rR(t:Nat):xO [] t=[]:=by rw[xO]
theorem nU(s:St)(r:List St)(t:Nat):xO (s::r) t=P0 s t++xO r t:=by rw[xO]
theorem QL(a b:List St)(t:Nat):xO (a++b) t=xO a t++xO b t:=by
 induction a with
 |nil=>simp[rR]
 |cons s r c=>rw[Yv,nU,nU,c,Ya]
def Z1(w:C3):Prop:=∀k:Nat,k<=28->w.cell? (0,k*2)=some (.string (ZE k))/\w.cell? (0,k*2+1)=some (.int .i64 (lvl k))
theorem Z1.size{w:C3}(h:Z1 w):0<w.heap.size:=block_lt_of_cell (h 0 O).1
theorem QM(k:Nat)(_:1<=k)(b:k<=28)(w:C3)(a:Z1 w):
 Cy 167 #[((k:Int):Int)] w (Cv (.agg #[.string (ZE k),(lvl k:Int)]) w):=by
 have c:=a.size;obtain⟨_,_⟩:=a k b;clear a;go_enter func167,ntmps167;go_wp2;exact bodyPost_ret (v:=.agg #[.string (ZE k),(lvl k:Int)]) (by simp[results,results167,go_sem]) rfl ⟨rfl,Zb.alloc Zr _⟩
theorem MC(op:Int)(h:op<1\/28<op)(w:C3):
 Cy 167 #[(op:Int)] w (Cv (.agg #[.string ⟨#[]⟩,(0:Int)]) w):=by
 rcases h with h|h
 all_goals
  go_enter func167,ntmps167;go_wp2
  all_goals exact bodyPost_ret (v:=.agg #[.string ⟨#[]⟩,(0:Int)]) (by simp[results,results167,go_sem]) rfl ⟨rfl,Zb.alloc Zr _⟩
theorem MD(op:Int)(w:C3)(d:Z1 w):
 Cy 167 #[(op:Int)] w (Cv (.agg #[.string (xN op),(kD op:Int)]) w):=by
 by_cases a:1<=op/\op<=28
 .obtain⟨k,rfl⟩:=Int.eq_ofNat_of_zero_le (show 0<=op by omega)
  have b:xN (k:Int)=ZE k:=by unfold xN;rw[Dq a];rfl
  have c:kD (k:Int)=lvl k:=by unfold kD;rw[Dq a];rfl
  rw[b,c];exact QM k O O w d
 .have b:xN op=⟨#[]⟩:=by unfold xN;rw[Dp a]
  have c:kD op=0:=by unfold kD;rw[Dp a]
  rw[b,c];exact MC op O w
theorem ME(op:Int)(w:C3)(b:Z1 w):
 Cy 161 #[(op:Int)] w (Cv (kD op:Int) w):=by
 have c:∀(s:C2) (l:Int) (w:C3),(Instr.field 230 (.agg #[s,(l:Int)]) 1).run Tryz.prog w=.ok (.int .i64 l) w:=fun _ _ _=>by kernel_rfl
 go_enter func161,ntmps161;go_wp2_with (go_at_call 167;refine(MD _ _ b).mono ?_;rintro e w' ⟨rfl,a⟩);go_ret;exact⟨rfl,a⟩
theorem MF(w:C3):Cy 41 #[] w fun e w'=>∃C:Array C4,(∀j:Nat,j<28->C[j]?=some (.string (ZE (j+1))))/\e=.returned (.slice (some ⟨w.heap.size,0,none⟩) 28 28)/\w'=w.alloc (.cells C 9):=by
 go_enter func41,ntmps41;go_wp2;go_ret;refine⟨_,?_,rfl,rfl⟩;intro j _;obtain rfl|rfl|rfl|rfl|rfl|rfl|rfl|rfl|rfl|rfl|rfl|rfl|rfl|rfl|rfl|rfl|rfl|rfl|rfl|rfl|rfl|rfl|rfl|rfl|rfl|rfl|rfl|rfl:j=0\/j=1\/j=2\/j=3\/j=4\/j=5\/j=6\/j=7\/j=8\/j=9\/j=10\/j=11\/j=12\/j=13\/j=14\/j=15\/j=16\/j=17\/j=18\/j=19\/j=20\/j=21\/j=22\/j=23\/j=24\/j=25\/j=26\/j=27:=O
 all_goals rfl
theorem QN(k:Nat)(b:k<28)(w:C3):Cy 21 #[(((k:Int)+1):Int)] w (Cv (.string (ZE (k+1))) w):=by
 go_enter func21,ntmps21;go_wp2_with (go_at_call 41;refine(MF _).mono ?_;rintro e w' ⟨C,a,rfl,rfl⟩;have c:=a k b;clear a);go_ret;exact⟨rfl,Zb.alloc Zr _⟩
theorem MG(op:Int)(h:op<1\/28<op)(w:C3):Cy 21 #[(op:Int)] w (Cv (.string ⟨#[]⟩) w):=by
 rcases h with h|h
 all_goals
  go_enter func21,ntmps21;go_wp2
  all_goals go_ret
  all_goals exact⟨rfl,D4 _ _⟩
theorem MH(op:Int)(w:C3):Cy 21 #[(op:Int)] w (Cv (.string (xN op)) w):=by
 by_cases b:1<=op/\op<=28
 .obtain⟨k,_⟩:=Int.eq_ofNat_of_zero_le (show 0<=op-1 by omega)
  obtain rfl:op=(k:Int)+1:=O
  have a:xN ((k:Int)+1)=ZE (k+1):=by unfold xN;rw[Dq b];rfl
  rw[a];exact QN k O w
 .have a:xN op=⟨#[]⟩:=by unfold xN;rw[Dp b]
  rw[a];exact MG op O w
theorem MI(op:Int)(h:1<=op/\op<=19)(w:C3):Cy 105 #[(op:Int)] w (Cw (kD op:Int) w):=by
 obtain rfl|rfl|rfl|rfl|rfl|rfl|rfl|rfl|rfl|rfl|rfl|rfl|rfl|rfl|rfl|rfl|rfl|rfl|rfl:op=1\/op=2\/op=3\/op=4\/op=5\/op=6\/op=7\/op=8\/op=9\/op=10\/op=11\/op=12\/op=13\/op=14\/op=15\/op=16\/op=17\/op=18\/op=19:=O
 all_goals clear h
 all_goals
  go_enter func105,ntmps105;go_wp2;go_ret;exact⟨rfl,rfl⟩
theorem MJ(op:Int)(a:op<1\/19<op):kD op=0:=by
 unfold kD;split
 .rename_i b
  obtain rfl|rfl|rfl|rfl|rfl|rfl|rfl|rfl|rfl:op=20\/op=21\/op=22\/op=23\/op=24\/op=25\/op=26\/op=27\/op=28:=O
  all_goals rfl
 .rfl
theorem HY(op:Int)(a:op<1\/19<op)(w:C3):Cy 105 #[(op:Int)] w (Cw (0:Int) w):=by
 have n1:(op == 1)=false:=Ug
 have n2:(op == 2)=false:=Ug
 have m:(op == 3)=false:=Ug
 have n:(op == 4)=false:=Ug
 have o:(op == 5)=false:=Ug
 have p:(op == 6)=false:=Ug
 have q:(op == 7)=false:=Ug
 have r:(op == 8)=false:=Ug
 have s:(op == 9)=false:=Ug
 have b:(op == 10)=false:=Ug
 have c:(op == 11)=false:=Ug
 have d:(op == 12)=false:=Ug
 have e:(op == 13)=false:=Ug
 have f:(op == 14)=false:=Ug
 have g:(op == 15)=false:=Ug
 have i:(op == 16)=false:=Ug
 have j:(op == 17)=false:=Ug
 have k:(op == 18)=false:=Ug
 have l:(op == 19)=false:=Ug
 clear a;go_enter func105,ntmps105;go_wp2;go_ret;exact⟨rfl,rfl⟩
theorem rS(op:Int)(w:C3):Cy 105 #[(op:Int)] w (Cw (kD op:Int) w):=by
 by_cases h:1<=op/\op<=19
 .exact MI op h w
 .rw[MJ op O]
  exact HY op O w
