import Derived.Test.YthcmenajdcbnnaaGreatDoorAlZee
import Derived.Lib.AtoiAllCases
import Derived.Lib.SlTrimSet
import Derived.Lib.IndexLaws
import Derived.Test.YthcmenajdcbnnaaGreatDoorShelf
import Derived.WalkSpells
import Derived.WalkLawsBesides
import Derived.Lib.Walk
import Derived.Deep.Light
import Derived.Lib.SmallJoins
import Derived.Lib.ItoaMem
set_option linter.unusedSimpArgs false
set_option linter.unusedVariables false
set_option maxRecDepth 100000
namespace Go.Proofs.YthcmenajdcbnnaaGreatDoor
open Go.RowKit Tryz
theorem Oa{p:Prop}(h:p:=by
 simp only[Nat.reducePow]at this
 erw [this]
 simp only[IntKind.wrap,IntKind.bits,IntKind.signed];simp;split<;>split<;>omega):p:=h
theorem Ob{p:Prop}(h:p:=by
 have:=jx ((2 ^ j-1 :Nat):Int);have i:((2 ^ j-1 :Nat):Int) % 18446744073709551616=((2 ^ j-1 :Nat):Int):=Int.emod_eq_of_lt O O
 omega):p:=h
theorem Oc{p:Prop}(h:p:=by
 have:(2 ^ j:Nat) ∣ 18446744073709551616:=(Nat.pow_dvd_pow 2 (by omega:j<=64):(2 ^ j:Nat) ∣ 2 ^ 64)
 exact Int.natCast_dvd_natCast.2 this):p:=h
theorem Od{p:Prop}(h:p:=by
 go_wp2
 all_goals go_ret
 all_goals refine⟨zC ?_,rfl⟩
 all_goals go_light
 all_goals(unfold uN;rw[Yk];simp;omega)):p:=h
theorem Oe{p:Prop}(h:p:=by
 go_wp2
 all_goals go_ret
 all_goals refine⟨zC ?_,rfl⟩
 all_goals go_light
 all_goals(unfold g9;rw[Yk];simp;omega)):p:=h
theorem Of{p:Prop}(h:p:=by
 go_wp2
 all_goals go_ret
 all_goals refine⟨zC ?_,rfl⟩
 all_goals go_light
 all_goals simp_all [xp,QC]):p:=h
theorem Og{p:Prop}(h:p:=by
 cases i with
 |zero=>simp at b;subst b;exact c.1
 |succ i=>exact d c.2 Up):p:=h
theorem Oh{p:Prop}(h:p:=by
 simp only[IntKind.wrap,IntKind.bits,IntKind.signed];simp;split<;>omega):p:=h
theorem Oi{p:Prop}(h:p:=by
 clear a b;go_enter func106,ntmps106;go_wp2;go_ret
 exact⟨rfl,rfl⟩):p:=h
structure fH where
 kind:Int
 text:List UInt8
 line:Nat
def lA(c:UInt8):Bool:=(65<=c.toNat&&c.toNat<=90) || (97<=c.toNat&&c.toNat<=122) || c.toNat == 95
def kl(c:UInt8):Bool:=48<=c.toNat&&c.toNat<=57
def qq(c:UInt8):Bool:=lA c || kl c
def yW(c:UInt8):Bool:=c.toNat == 32 || c.toNat == 9 || c.toNat == 13 || c.toNat == 10
def QC:List (List UInt8):=
 [[105,110,116],[98,111,111,108],[105,102],[101,108,115,101],[119,104,105,108,101],[98,114,101,97,107],
  [99,111,110,116,105,110,117,101],[114,101,116,117,114,110],[112,114,105,110,116],[114,101,97,100],
  [116,114,117,101],[102,97,108,115,101],[105,56],[105,49,54],[105,51,50],[117,56],[117,49,54],[117,51,50]]
def xp(t:List UInt8):Bool:=QC.contains t
def xI(t:List UInt8):Bool:=(!t.isEmpty)&&decide (t.length<=20)&&lA (t.headD 0)&&t.all qq&&!xp t
def kT(tk:Nat)(l:List UInt8):Nat:=l.foldl (fun a c=>a*10+(c.toNat-48)) tk
theorem g7(tk:Nat):kT tk []=tk:=by unfold kT;rw[List.foldl_nil]
theorem nT(tk:Nat)(c:UInt8)(r:List UInt8):kT tk (c::r)=kT (tk*10+(c.toNat-48)) r:=by unfold kT;rw[List.foldl_cons]
theorem EG(a b:List UInt8)(tk:Nat):kT tk (a++b)=kT (kT tk a) b:=by unfold kT;rw[List.foldl_append]
theorem iS(l:List UInt8)(tk:Nat)(c:UInt8):kT tk (l++[c])=kT tk l*10+(c.toNat-48):=by rw[EG,nT,g7]
def xM(t:List UInt8):Bool:=(!t.isEmpty)&&t.all kl&&(t == [48] || t.headD 0 != 48)&&decide (kT 0 t<9223372036854775808)
def yX(t:List UInt8):Option Int:=if xp t then some 2 else if xI t then some 1 else if xM t then some 0 else none
def HZ:List (List UInt8):=[[61,61],[33,61],[60,61],[62,61],[60,60],[62,62],[38,38],[124,124]]
def B6:List (List UInt8):=[[40],[41],[123],[125],[91],[93],[44],[59],[61],[60],[62],[43],[45],[42],[47],[37],[38],[124],[94],[126],[33]]
def g8:List (List UInt8):=[62,62,62]::(HZ++B6)
def yA(l:List UInt8):List UInt8:=(g8.find? (fun t=>Lib.hasPrefix l t)).getD []
def wQ(l:List UInt8):Option (Int×List UInt8):=
 if l.takeWhile qq≠[]then(yX (l.takeWhile qq)).map fun k=>(k,l.takeWhile qq)
 else if yA l≠[]then some (2,yA l)else none
def qF:List UInt8->Nat->List fH×Option Nat
 |[],line=>([⟨3,[],line⟩],none)
 |c::r,line=>
   if c.toNat == 10 then qF r (line+1)
   else if yW c then qF r line
   else if c.toNat == 47&&r.head? == some 47 then qF (r.dropWhile (fun d=>d.toNat != 10)) line
   else match wQ (c::r)with
    |none=>([],some line)
    |some (k,t)=>(⟨k,t,line⟩::(qF (r.drop (t.length-1)) line).1,(qF (r.drop (t.length-1)) line).2)
termination_by l=>l.length
decreasing_by
 all_goals simp only[D1,Ys]
 all_goals first
  |omega
  |exact Nat.lt_succ_of_le (List.IsSuffix.length_le (List.dropWhile_suffix _))
def uN(c:Int):Bool:=decide ((65<=c/\c<=90)\/(97<=c/\c<=122)\/c=95)
def g9(c:Int):Bool:=decide (48<=c/\c<=57)
theorem iT(c:UInt8):uN (c.toNat:Int)=lA c:=by
 unfold uN lA;rw[Yk];simp;omega
theorem iU(c:UInt8):g9 (c.toNat:Int)=kl c:=by
 unfold g9 kl;rw[Yk];simp;omega
theorem L2(c:Int)(_:128<=c):uN c=false:=by unfold uN;simp;omega
theorem L3(c:Int)(_:128<=c):g9 c=false:=by unfold g9;simp;omega
theorem L4(c:UInt8)(h:qq c=true):c.toNat<128:=by
 simp[qq,lA,kl]at h;omega
theorem lC(c:UInt8)(h:lA c=true):kl c=false:=by
 simp[lA,kl]at h ⊢;omega
theorem VZ(p:UInt8->Bool)(l:List UInt8)(k:Nat)(f:k<=l.length)(d:∀(j:Nat) b,j<k->l[j]?=some b->p b=true)(e:∀b,l[k]?=some b->p b=false):(l.takeWhile p)=l.take k:=by
 induction l generalizing k with
 |nil=>simp
 |cons a t g=>
   cases k with
   |zero=>
     have:=e a rfl;simp[List.takeWhile,this]
   |succ k=>
     have:=d 0 a O rfl;rw[List.takeWhile_cons_of_pos this,Y6,g k (by simpa using f) (fun j b _ c=>d (j+1) b O Uy) (fun b c=>e b Uy)]
theorem l2(p:UInt8->Bool)(l:List UInt8)(k:Nat)(d:k<=l.length)(a:∀(j:Nat) b,j<k->l[j]?=some b->p b=true)(c:∀b,l[k]?=some b->p b=false):(l.takeWhile p).length=k:=by
 rw[VZ p l k d a c,Yg];omega
def xN(l:List UInt8):Nat:=(l.takeWhile qq).length
theorem QD(l:List UInt8):xN l<=l.length:=List.IsPrefix.length_le (Cs _)
theorem L5(l:List UInt8):xN l=l.length↔l.all qq=true:=by
 unfold xN;constructor
 .intro a
  have:=List.IsPrefix.eq_of_length (Cs (l:=l) qq) a;rw[<-this];exact List.all_takeWhile
 .intro a
  exact l2 qq l l.length Zr (fun j b _ c=>List.all_eq_true.1 a b (Yc c)) (fun b c=>Vv)
theorem QE(l:List UInt8)(e:l≠[])(f:l.length<=20):xI l=((!kl (l.headD 0))&&decide (xN l=l.length)&&!xp l):=by
 cases l with
 |nil=>exact absurd rfl e
 |cons c r=>
   rw[Yk];simp only[xI,L5,Cp,D2,decide_eq_true_eq];simp only[List.isEmpty_cons,Bool.not_false,f,true_and,List.all_cons,D2];constructor
   .rintro⟨⟨i,a,b⟩,d⟩
    exact⟨⟨by simp[lC c i],a,b⟩,d⟩
   .rintro⟨⟨g,a,b⟩,d⟩
    refine⟨⟨?_,a,b⟩,d⟩;simp[qq]at a;rcases a with a|a
    .exact a
    .simp[a]at g
theorem y4:xI []=false:=rfl
theorem rP(l:List UInt8)(_:20<l.length):xI l=false:=by
 simp[xI];omega
def nl(l:List UInt8):Nat:=l.countP (fun d=>d.toNat == 10)
def nU(l:List UInt8):Nat:=if Lib.hasPrefix l [47,47]then(l.takeWhile (fun d=>d.toNat != 10)).length else(l.takeWhile yW).length
theorem B7(p:UInt8->Bool)(l:List UInt8):l.dropWhile p=l.drop (l.takeWhile p).length:=by
 have h:=List.takeWhile_append_dropWhile (p:=p) (l:=l)
 conv=>rhs;rw[<-h]
 rw[List.drop_append];simp
theorem L6(c:UInt8)(h:c.toNat=10):yW c=true:=by simp[yW,h]
theorem hG:∀(l:List UInt8) (a:Nat),qF l a=qF (l.drop (l.takeWhile yW).length) (a+nl (l.take (l.takeWhile yW).length))
 |[],a=>by simp[nl]
 | c::r,a=>by
   by_cases d:yW c=true
   .rw[List.takeWhile_cons_of_pos d]
    simp only[D1,List.drop_succ_cons,Y6];rw[qF];by_cases b:c.toNat=10
    .simp only[b,beq_self_eq_true,if_true]
     rw[hG r (a+1)];congr 1;simp[nl,b];omega
    .have:(c.toNat == 10)=false:=by simpa using b
     simp only[this,d,if_true];rw[Dp Uh,hG r a];congr 1;simp[nl,b]
   .rw[List.takeWhile_cons_of_neg d]
    simp[nl]
theorem vH{l:List UInt8}(h:Lib.hasPrefix l [47,47]=true):∃r,l=47::47::r:=by
 match l,h with
 |[],h=>simp[Lib.hasPrefix]at h
 |[a],h=>simp[Lib.hasPrefix]at h
 |a::b::r,h=>
   simp[Lib.hasPrefix]at h;exact⟨r,by rw[<-h.1,<-h.2]⟩
theorem KM(l:List UInt8):nl (l.take (l.takeWhile (fun d=>d.toNat != 10)).length)=0:=by
 have e:l.take (l.takeWhile (fun d=>d.toNat != 10)).length=l.takeWhile (fun d=>d.toNat != 10):=(List.prefix_iff_eq_take.1 (Cs _)).symm;rw[e];unfold nl;rw[List.countP_eq_zero];intro a b;have:=List.all_takeWhile (p:=fun d:UInt8=>d.toNat != 10) (l:=l);have:=List.all_eq_true.1 this a b;simpa using this
theorem QF(l:List UInt8)(a:Nat):qF l a=qF (l.drop (nU l)) (a+nl (l.take (nU l))):=by
 unfold nU;split
 .rename_i b
  obtain⟨r,rfl⟩:=vH b;rw[KM,<-B7]
  conv=>lhs;rw[qF]
  rfl
 .exact hG l a
theorem QG{c:UInt8}{r:List UInt8}(a:nU (c::r)=0):yW c=false/\(c.toNat == 47&&r.head? == some 47)=false:=by
 unfold nU at a;split at a
 .rename_i f
  obtain⟨k,e⟩:=vH f;rw[e]at a;simp at a
 .rename_i f
  refine⟨?_,?_⟩
  .cases hb:yW c with
   |false=>rfl
   |true=>rw[List.takeWhile_cons_of_pos hb]at a;simp at a
  .rw[Cl]
   intro g;apply f;simp at g;obtain⟨i,d⟩:=g;have j:c=47:=UInt8.toNat_inj.1 i;cases r with
   |nil=>simp at d
   |cons b t=>
     simp at d;subst j d;rfl
theorem y5{c:UInt8}{r:List UInt8}(d:nU (c::r)=0)(a:Nat):qF (c::r) a=match wQ (c::r)with
 |none=>([],some a)
 |some (k,t)=>(⟨k,t,a⟩::(qF (r.drop (t.length-1)) a).1,(qF (r.drop (t.length-1)) a).2):=by
 obtain⟨b,g⟩:=QG d
 have f:(c.toNat == 10)=false:=by
  rw[Cl];intro e;rw[L6 c Vs]at b;cases b
 rw[qF,Dp Vw,Dp (by simp[b]),Dp (by rw[g];simp)]
theorem V0(l:List UInt8):∀(tk:Nat),tk<=kT tk l:=by
 induction l with
 |nil=>intro tk;rw[g7];exact D0 _
 |cons c r a=>
   intro tk;have b:=a (tk*10+(c.toNat-48));rw[nT];omega
theorem rQ{α:Type}(p:α->Bool):∀(a:List α) (k:Nat) (t:α),a[k]?=some t->p t=true->(∀(j:Nat) b,j<k->a[j]?=some b->p b=false)->a.find? p=some t
 |[],k,t,h,_,_=>Xb
 | x::a,0,t,h,hp,_=>by
   simp at h;subst h;simp[List.find?,hp]
 | x::a,k+1,t,h,hp,hn=>by
   have c:=hn 0 x O rfl;rw[List.find?_cons_of_neg (by simp[c])];exact rQ p a k t Xs hp (fun j b _ d=>hn (j+1) b O Uz)
theorem H0{α:Type}(p:α->Bool)(b:List α)(d:∀(j:Nat) a,b[j]?=some a->p a=false):b.find? p=none:=by
 rw[List.find?_eq_none];intro x e;obtain⟨j,c⟩:=List.mem_iff_getElem?.1 e;simp[d j x c]
theorem qK{k:IntKind}{a b:Int}(h:a=b):Ending.returned (.int k a)=.returned (.int k b):=by rw[h]
theorem zC{a b:Bool}(h:a=b):Ending.returned (.bool a)=.returned (.bool b):=by rw[h]
theorem rR(c:Int)(w:C4):Cz 151 #[.int .i32 c] w (Cx (uN c) w):=by
 go_enter func151,ntmps151;exact Od
theorem EH(c:Int)(w:C4):Cz 47 #[.int .u8 c] w (Cx (uN c) w):=by
 go_enter func47,ntmps47;exact Od
theorem nV(c:Int)(w:C4):Cz 129 #[.int .i32 c] w (Cx (g9 c) w):=by
 go_enter func129,ntmps129;exact Oe
theorem H1(c:Int)(w:C4):Cz 48 #[.int .u8 c] w (Cx (g9 c) w):=by
 go_enter func48,ntmps48;exact Oe
theorem QH(s:C3)(w:C4):Cz 131 #[s] w (Cx (xp s.data.toList) w):=by
 rw[<-Ym];go_enter func131,ntmps131;exact Of
theorem L7(s:C3)(w:C4):Cz 49 #[s] w (Cx (xp s.data.toList) w):=by
 rw[<-Ym];go_enter func49,ntmps49;exact Of
theorem rS{B:Nat}{a w:C4}(b:Below B a w)(c:B<=w.heap.size)(s:C3)(d:Nat):Below B a (w.iter s d):=b.alloc c _
theorem vg(s:C3)(a:Nat)(b:a<s.size):s.data.toList[a]?=some s[a]:=by
 rw[Array.getElem?_toList];exact Array.getElem?_eq_getElem b
theorem QI{s:C3}{c:Nat}(g:c<s.size)(d:∀(j:Nat) b,j<c->s.data.toList[j]?=some b->qq b=true)(f:qq s[c]=true):
 ∀(j:Nat) b,j<c+1->s.data.toList[j]?=some b->qq b=true:=by
 intro j b _ a;by_cases e:j=c
 .subst e
  rw[vg s j g]at a;injection a with a;exact a▸f
 .exact d j b O a
theorem z0{s:C3}{a:Nat}(e:a<=s.size)(f:∀(j:Nat) b,j<a->s.data.toList[j]?=some b->qq b=true)(g:∀e:a<s.size,qq s[a]=false):
 xN s.data.toList=a:=
 l2 qq _ a e f (fun b c=>by
  have d:a<s.size:=(List.getElem?_eq_some_iff.1 c).1;rw[vg s a d]at c;injection c with c
  exact c▸g d)
theorem QJ(s:C3)(w:C4):Cz 130 #[s] w (Cw (xN s.data.toList:Int) w):=by
 have v:s.data.toList.length=s.size:=rfl;go_enter func130,ntmps130;go_wp2
 go_loopw [3] (fun _ w'=>∃a:Nat,w'=w.iter s a/\a<=s.size/\∀(j:Nat) b,j<a->s.data.toList[j]?=some b->qq b=true) (fun _ w'=>s.size-w'.iterPos w.heap.size)
 case atStart=>exact⟨0,rfl,Dx _,fun j b t=>absurd t O⟩
 case round=>
  obtain⟨a,rfl,p,l⟩:=hrel;have g:=U l;clear l;by_cases c:a<s.size
  .have m:∀f,(Instr.next (.pointer (some ⟨w.heap.size,0,none⟩)) true f).run Tryz.prog (w.iter s a)=_:=fun f=>run_next_any w s a f c
   by_cases d:qq s[a]=true
   .have k:=L4 _ d
    rw[decode_ascii s a c k]at m
    have n:uN (s[a].toNat:Int)=true\/g9 (s[a].toNat:Int)=true:=by
     rw[iT,iU];simpa[qq]using d
    have q:=U n;have i:=U d;clear n d;go_wp2_with (first|(go_at_call 151;(with_reducible refine(rR _ _).mono ?_);rintro e w' ⟨rfl,rfl⟩)|(go_at_call 129;(with_reducible refine(nV _ _).mono ?_);rintro e w' ⟨rfl,rfl⟩))
    all_goals first
     | (go_roundw
        case rel=>exact⟨a+1,rfl,c,QI c g.o i.o⟩
        case measure=>simp;omega)
     |(exfalso;have:=q.o;simp_all;done)
   .have i:=U d
    have u:uN ((Utf8.decode s a).1 :Int)=false/\g9 ((Utf8.decode s a).1 :Int)=false:=by
     by_cases k:s[a].toNat<128
     .rw[decode_ascii s a c k]
      show uN (s[a].toNat:Int)=false/\g9 (s[a].toNat:Int)=false;rw[iT,iU];simpa[qq]using d
     .have:=(decode_high s a c O).1
      exact⟨L2 _ O,L3 _ O⟩
    obtain⟨_,_⟩:=u;clear d;go_wp2_with (first|(go_at_call 151;(with_reducible refine(rR _ _).mono ?_);rintro e w' ⟨rfl,rfl⟩)|(go_at_call 129;(with_reducible refine(nV _ _).mono ?_);rintro e w' ⟨rfl,rfl⟩));go_ret;refine⟨qK ?_,rS Zb Zr _ _⟩;rw[z0 p g.o (fun _=>by simpa using i.o)]
  .have m:∀f,(Instr.next (.pointer (some ⟨w.heap.size,0,none⟩)) true f).run Tryz.prog (w.iter s a)=_:=fun f=>run_next_end w s a f c
   go_wp2;go_ret;refine⟨qK ?_,rS Zb Zr _ _⟩;have e:a=s.size:=O
   subst e;rw[z0 p g.o (fun r=>absurd r c)]
theorem B8(s:C3)(h:0<s.size):s.data.toList.headD 0=s[0]:=by
 have:=vg s 0 h;cases hl:s.data.toList with
 |nil=>rw[hl]at this;cases this
 |cons a t=>rw[hl]at this;simpa using this
theorem yY(s:C3)(h:s.size=0):s.data.toList=[]:=Yq h
theorem jw(s:C3)(_:0<s.size):s.data.toList≠[]:=fun e=>by have:s.data.toList.length=s.size:=rfl;rw[e]at this;simp at this;omega
theorem QK(s:C3)(w:C4)(b:s.size=0):Cz 106 #[s] w (Cx false w):=by
 have a:=yY s b;have c:s.toList.isEmpty=true:=by rw[Ym,a];rfl
 have d:s.toList=[]:=by rw[Ym,a]
 exact Oi
theorem L8(s:C3)(w:C4)(b:20<s.size):Cz 106 #[s] w (Cx false w):=by
 have a:=jw s O;have d:s.toList.isEmpty=false:=by rw[Ym];simpa using a
 have c:decide ((20 :Int)<s.size)=true:=Ug
 exact Oi
theorem QL(c:Int)(b:Bool)(h:g9 c=b)(w:C4):Cz 129 #[.int .i32 c] w (Cx b w):=h▸nV c w
theorem V1(s:C3)(n:Nat)(h:xN s.data.toList=n)(w:C4):Cz 130 #[s] w (Cw (n:Int) w):=h▸QJ s w
theorem V2(s:C3)(b:Bool)(h:xp s.data.toList=b)(w:C4):Cz 131 #[s] w (Cx b w):=h▸QH s w
theorem H2(s:C3)(w:C4)(m:0<s.size)(_:s.size<=20)(a:Bool)(n:Nat)(b:Bool)(c:g9 (wrap32 (s[0].toNat:Int))=a)(d:xN s.data.toList=n)(f:xp s.data.toList=b):
 Cz 106 #[s] w (Cw ((!a)&&decide (n=s.size)&&!b) w):=by
 have g:=jw s m;have q:s.toList.isEmpty=false:=by rw[Ym];simpa using g
 have p:decide ((20 :Int)<s.size)=false:=Ug
 have i:=U c;have j:=U d;have k:=U f;clear g c d f;cases a
 all_goals
  go_enter func106,ntmps106;go_wp2_with (first|(go_at_call 129;(with_reducible refine(QL _ _ i.o _).mono ?_);rintro e w' ⟨rfl,rfl⟩)|(go_at_call 130;(with_reducible refine(V1 _ _ j.o _).mono ?_);rintro e _ ⟨rfl,l⟩)|(go_at_call 131;(with_reducible refine(V2 _ _ k.o _).mono ?_);rintro e w' ⟨rfl,rfl⟩))
 all_goals go_ret
 all_goals first
  |(refine⟨zC ?_,l⟩;simp;intros;omega)
  |(refine⟨zC ?_,D4 _ _⟩;simp;done)
theorem QM(s:C3)(w:C4):Cz 106 #[s] w (Cw (xI s.data.toList) w):=by
 have f:s.data.toList.length=s.size:=rfl;by_cases c:s.size=0
 .rw[yY s c,y4]
  exact(QK s w c).mono fun e w' ⟨a,k⟩=>⟨a,k▸D4 _ _⟩
 by_cases d:20<s.size
 .rw[rP _ O]
  exact(L8 s w d).mono fun e w' ⟨a,k⟩=>⟨a,k▸D4 _ _⟩
 .have b:0<s.size:=by omega
  rw[QE _ (jw s b) O,B8 s b,<-iU];refine H2 s w b O _ _ _ ?_ rfl rfl;rw[IntWalk.wrap32_in _ (by have:=s[0].toNat_lt;omega)]
theorem yZ{B:Nat}{a w:C4}(h:Below B a w)(n:Nat):Below B a (w.drewN n):=⟨h.os,h.tape,h.output,h.size,h.block⟩
theorem V3(s:C3)(b:Bool)(h:xI s.data.toList=b)(w:C4):Cz 106 #[s] w (Cw b w):=h▸QM s w
section
variable {P:Program}
end
theorem jX(c:Int)(b:Bool)(h:uN c=b)(w:C4):Cz 47 #[.int .u8 c] w (Cx b w):=h▸EH c w
theorem nW(c:Int)(b:Bool)(h:g9 c=b)(w:C4):Cz 48 #[.int .u8 c] w (Cx b w):=h▸H1 c w
theorem xO(s:C3)(b:Bool)(h:xp s.data.toList=b)(w:C4):Cz 49 #[s] w (Cx b w):=h▸L7 s w
theorem EI{p:UInt8->Bool}{s:C3}(c:∀(j:Nat) b,j<s.size->s.data.toList[j]?=some b->p b=true):s.data.toList.all p=true:=
 List.all_eq_true.2 fun b d=>by
  obtain⟨j,a⟩:=List.mem_iff_getElem?.1 d;exact c j b (by have:=(List.getElem?_eq_some_iff.1 a).1;rwa [<-Yf]at this) a
theorem EJ{p:UInt8->Bool}{s:C3}{k:Nat}(c:k<s.size)(a:p s[k]=false):s.data.toList.all p=false:=by
 rw[Cl];intro b;rw[List.all_eq_true.1 b s[k] (List.mem_iff_getElem?.2 ⟨k,vg s k c⟩)]at a;cases a
theorem z1{p:UInt8->Bool}{s:C3}{c:Nat}(g:c<s.size)(d:∀(j:Nat) b,j<c->s.data.toList[j]?=some b->p b=true)(f:p s[c]=true):
 ∀(j:Nat) b,j<c+1->s.data.toList[j]?=some b->p b=true:=by
 intro j b _ a;by_cases e:j=c
 .subst e
  rw[vg s j g]at a;injection a with a;exact a▸f
 .exact d j b O a
theorem L9(s:C3)(w:C4)(b:s.size=0):Cz 50 #[s] w (Cx false w):=by
 have a:=yY s b;have c:s.toList.isEmpty=true:=by rw[Ym,a];rfl
 have d:s.toList=[]:=by rw[Ym,a]
 clear a b;go_enter func50,ntmps50;go_wp2;go_ret;exact⟨rfl,rfl⟩
theorem H3(s:C3)(w:C4)(b:20<s.size):Cz 50 #[s] w (Cx false w):=by
 have a:=jw s O;have d:s.toList.isEmpty=false:=by rw[Ym];simpa using a
 have c:decide ((20 :Int)<s.size)=true:=Ug
 clear a b;go_enter func50,ntmps50;go_wp2;go_ret;exact⟨rfl,rfl⟩
theorem rT(s:C3)(w:C4)(k:0<s.size)(_:s.size<=20)(a b:Bool)(c:uN (s[0].toNat:Int)=a)(d:xp s.data.toList=b)(j:a=false\/b=true):
 Cz 50 #[s] w (Cx false w):=by
 have f:=jw s k;have m:s.toList.isEmpty=false:=by rw[Ym];simpa using f
 have l:decide ((20 :Int)<s.size)=false:=Ug
 have g:=U c;have i:=U d;clear f c d;cases a<;>cases b<;>simp at j
 all_goals
  go_enter func50,ntmps50;go_wp2_with (first|(go_at_call 47;(with_reducible refine(jX _ _ g.o _).mono ?_);rintro e w' ⟨rfl,rfl⟩)|(go_at_call 49;(with_reducible refine(xO _ _ i.o _).mono ?_);rintro e w' ⟨rfl,rfl⟩));go_ret;exact⟨rfl,rfl⟩
theorem H4(s:C3)(w:C4)(B:0<s.size)(_:s.size<=20)(n:uN (s[0].toNat:Int)=true)(p:xp s.data.toList=false)(b:Bool)(r:s.data.toList.all qq=b):
 Cz 50 #[s] w (Cx b w):=by
 have u:=jw s B;have D:s.toList.isEmpty=false:=by rw[Ym];simpa using u
 have C:decide ((20 :Int)<s.size)=false:=Ug
 have v:=U n;have x:=U p;have f:=U r;clear u n p r;go_enter func50,ntmps50;go_wp2_with (first|(go_at_call 47;(with_reducible refine(jX _ _ v.o _).mono ?_);rintro e w' ⟨rfl,rfl⟩)|(go_at_call 49;(with_reducible refine(xO _ _ x.o _).mono ?_);rintro e w' ⟨rfl,rfl⟩))
 go_loop [3] (fun i=>∃k:Nat,k<=s.size/\i=.int .i64 k/\∀(j:Nat) b,j<k->s.data.toList[j]?=some b->qq b=true) (fun i=>s.size-(intOf i).toNat)
 case atStart=>exact⟨0,Dx _,rfl,fun j b A=>absurd A O⟩
 case round=>
  obtain⟨k,_,rfl,q⟩:=hrel;have d:=U q;clear q;by_cases t:k<s.size
  .obtain⟨l,a⟩:=C0 (uN (s[k].toNat:Int))
   obtain⟨m,c⟩:=C0 (g9 (s[k].toNat:Int));have g:Do (qq s[k]=(l || m)):=by unfold Do qq;rw[<-a,<-c,iT,iU]
   have y:=U a;have z:=U c;clear a c;cases l<;>cases m
   all_goals
    go_wp2_with (first|(go_at_call 47;(with_reducible refine(jX _ _ y.o _).mono ?_);rintro e w' ⟨rfl,rfl⟩)|(go_at_call 48;(with_reducible refine(nW _ _ z.o _).mono ?_);rintro e w' ⟨rfl,rfl⟩))
   .go_ret
    exact⟨zC ((EJ t g.o).symm.trans f.o),rfl⟩
   all_goals
    go_round
    case rel=>exact⟨k+1,O,by go_num,z1 t d.o g.o⟩
    case measure=>simp[intOf];omega
  .have e:k=s.size:=by omega
   subst e;go_wp2;go_ret;exact⟨zC ((EI d.o).symm.trans f.o),rfl⟩
theorem MA(s:C3)(w:C4):Cz 50 #[s] w (Cx (xI s.data.toList) w):=by
 by_cases c:s.size=0
 .rw[yY s c,y4]
  exact L9 s w c
 by_cases d:20<s.size
 .rw[rP _ (by rw[<-Yf];exact d)]
  exact H3 s w d
 .have a:0<s.size:=by omega
  have i:xI s.data.toList=(uN (s[0].toNat:Int)&&s.data.toList.all qq&&!xp s.data.toList):=by
   unfold xI;rw[B8 s a,<-iT];have f:s.data.toList.isEmpty=false:=by simpa using jw s a
   have g:s.data.toList.length<=20:=by rw[<-Yf];omega
   rw[f,decide_eq_true g];rfl
  rw[i];cases h1:uN (s[0].toNat:Int)with
  |false=>exact rT s w a O _ _ h1 rfl (.inl rfl)
  |true=>
    cases h2:xp s.data.toList with
    |true=>exact(rT s w a O _ _ h1 h2 (.inr rfl)).mono fun e w' ⟨b,k⟩=>⟨by simp[b],k⟩
    |false=>exact(H4 s w a O h1 h2 _ rfl).mono fun e w' ⟨b,k⟩=>⟨by simp[b],k⟩
theorem rU(s:C3)(b:Bool)(h:xI s.data.toList=b)(w:C4):Cz 50 #[s] w (Cx b w):=h▸MA s w
theorem iV{s:C3}{k:Nat}(h:k<s.size):s.data.toList.take (k+1)=s.data.toList.take k++[s[k]]:=by
 rw[Yt,vg s k h];rfl
theorem l3(l:List UInt8)(k:Nat):kT 0 (l.take k)<=kT 0 l:=by
 have e:kT 0 l=kT (kT 0 (l.take k)) (l.drop k):=by rw[<-EG,Ct]
 rw[e];exact V0 _ _
theorem uq(s:C3)(k:Nat)(a:k<s.size)(c:Int)(b:(s[k].toNat:Int)=c)(w:C4):(Instr.index 9 (.string s) (.int .i64 k)).run Tryz.prog w=.ok (.int .u8 c) w:=by
 subst b;have d:(0 :Int)<=(k:Int):=O
 simp[Instr.index,run_underlying underlying9,asIntOf,go_sem,a]
theorem o8(s:C3)(a:0<s.size)(c:Int)(b:(s[0].toNat:Int)=c)(w:C4):(Instr.index 9 (.string s) (.int .i64 0)).run Tryz.prog w=.ok (.int .u8 c) w:=uq s 0 a c b w
def V4(l:List UInt8)(w:C4)(e:Ending)(w':C4):Prop:=∃r,e=.returned (r:Int)/\decide (0<=r)=xM l/\w=w'
theorem QN{s:C3}{k:Nat}(a:k<s.size)(b:s.data.toList.all kl=true):48<=s[k].toNat/\s[k].toNat<=57:=by
 have:=List.all_eq_true.1 b s[k] (List.mem_iff_getElem?.2 ⟨k,vg s k a⟩);simpa[kl]using this
theorem z2(s:C3)(k m:Nat)(a:k<s.size)(e:m=kT 0 (s.data.toList.take k))(c:Int)(_:(s[k].toNat:Int)=c)(_:48<=c)(_:(9223372036854775807-(c-48)) / 10<(m:Int)):xM s.data.toList=false:=by
 have b:=l3 s.data.toList (k+1);rw[iV a,iS,<-e]at b;have d:¬kT 0 s.data.toList<9223372036854775808:=O
 unfold xM;rw[decide_eq_false d,Bool.and_false]
theorem EK(s:C3)(d:0<s.size)(f:s.data.toList.all kl=true)(i:kT 0 s.data.toList<9223372036854775808):xM s.data.toList=(decide (s.size=1) || decide (s[0].toNat≠48)):=by
 unfold xM;have c:s.data.toList.isEmpty=false:=by simpa using jw s d
 rw[f,decide_eq_true i,c];have g:=B8 s d;have j:s.size=s.data.toList.length:=rfl;rw[<-g,j];generalize s.data.toList=l at *;cases l with
 |nil=>simp at c
 |cons a t=>
   simp only[Cp,D1];rw[Yk];cases t with
   |nil=>
     simp;by_cases e:a=48
     .exact .inl e
     .exact .inr e
   |cons b r=>
     simp[<-UInt8.toNat_inj]
     all_goals exact decide_eq_true_iff.symm
theorem H5(s:C3)(w:C4)(g:0<s.size)(_:s.size<=281474976710656)(q:s.data.toList.all kl=true):
 Cz 57 #[s] w (V4 s.data.toList w):=by
 have t:=jw s g;have F:s.toList.isEmpty=false:=by rw[Ym];simpa using t
 have l:=U q;clear t q;go_enter func57,ntmps57;go_wp2
 go_loop [3,4,5] (fun n i _=>∃(k m:Nat),k<=s.size/\i=.int .i64 k/\n=.int .i64 m/\m=kT 0 (s.data.toList.take k)/\m<9223372036854775808) (fun _ i _=>s.size-(intOf i).toNat)
 case atStart=>exact⟨0,0,Dx _,rfl,rfl,by rw[Yx,g7],O⟩
 case round=>
  obtain⟨k,m,_,rfl,rfl,r,x⟩:=hrel;have d:=U r;clear r;by_cases b:k<s.size
  .obtain⟨c,a⟩:∃c:Int,(s[k].toNat:Int)=c:=⟨_,rfl⟩
   have z:=uq s k b c a;have j:=U a;have y:=QN b l.o;have v:48<=c:=O
   have E:c<=57:=O
   clear a y;by_cases B:(9223372036854775807-(c-48)) / 10<(m:Int)
   .go_wp2
    go_ret;exact⟨-1,rfl,by rw[z2 s k m b d.o c j.o v B];rfl,rfl⟩
   .go_wp2
    have C:=j.o;have A:((m*10+(s[k].toNat-48):Nat):Int)=(m:Int)*10+(c-48):=O
    go_round
    case rel=>exact⟨k+1,m*10+(s[k].toNat-48),O,by go_num,by rw[A],by rw[iV b,iS,<-d.o],O⟩
    case measure=>simp[intOf];omega
  .have e:k=s.size:=by omega
   subst e
   have u:Do (m=kT 0 s.data.toList):=by
    unfold Do;rw[d.o,Ye (by rw[<-Yf];exact D0 _)]
   obtain⟨c,a⟩:∃c:Int,(s[0].toNat:Int)=c:=⟨_,rfl⟩
   have z:=o8 s g c a
   have f:Do (xM s.data.toList=(decide (s.size=1) || decide (c≠48))):=by
    unfold Do;rw[EK s g l.o (by rw[<-u.o];exact x)];congr 1;rw[Yk];simp;omega
   clear a;by_cases D:1<s.size
   .by_cases p:c=48
    .subst p
     go_wp2;go_ret;refine⟨-1,rfl,?_,rfl⟩;rw[f.o,decide_eq_false (show ¬s.size=1 by omega)];rfl
    .go_wp2
     go_ret;refine⟨m,rfl,?_,rfl⟩;rw[f.o,decide_eq_true p,Bool.or_true];simp
   .go_wp2
    go_ret;refine⟨m,rfl,?_,rfl⟩;rw[f.o,decide_eq_true (show s.size=1 by omega),Bool.true_or];simp
theorem EL{s:C3}(h:s.data.toList.all kl=false):xM s.data.toList=false:=by
 unfold xM;rw[h];simp
theorem o9(s:C3)(w:C4)(x:0<s.size)(y:s.size<=281474976710656)(b:Bool)(m:xM s.data.toList=b):
 Cz 51 #[s] w (Cx b w):=by
 have d:=U m;clear m;go_enter func51,ntmps51;go_wp2
 go_loop [3] (fun i=>∃k:Nat,k<=s.size/\i=.int .i64 k/\∀(j:Nat) b,j<k->s.data.toList[j]?=some b->kl b=true) (fun i=>s.size-(intOf i).toNat)
 case atStart=>exact⟨0,Dx _,rfl,fun j b v=>absurd v O⟩
 case round=>
  obtain⟨k,_,rfl,l⟩:=hrel;have c:=U l;clear l;by_cases n:k<s.size
  .obtain⟨g,a⟩:=C0 (g9 (s[k].toNat:Int))
   have f:Do (kl s[k]=g):=by unfold Do;rw[<-a,iU]
   have q:=U a;clear a;cases g
   all_goals
    go_wp2_with (go_at_call 48;(with_reducible refine(nW _ _ q.o _).mono ?_);rintro e w' ⟨rfl,rfl⟩)
   .go_ret
    exact⟨zC ((EL (EJ n f.o)).symm.trans d.o),rfl⟩
   .go_round
    case rel=>exact⟨k+1,O,by go_num,z1 n c.o f.o⟩
    case measure=>simp[intOf];omega
  .have e:k=s.size:=by omega
   subst e;have t:=U (EI c.o);go_wp2_with (go_at_call 57;(with_reducible refine(H5 _ _ x y t.o).mono ?_);rintro e w' ⟨r,rfl,p,rfl⟩;have u:=U p;clear p);go_ret;exact⟨zC (u.o.trans d.o),rfl⟩
end Go.Proofs.YthcmenajdcbnnaaGreatDoor
namespace Go.Proofs.YthcmenajdcbnnaaGreatDoor
open Tryz
open Go.RowKit (wrap64 wrap32)
theorem jx(z:Int):(((BitVec.ofInt 64 z).toNat:Nat):Int)=z % 18446744073709551616:=by
 rw[BitVec.toNat_ofInt];have:(0 :Int)<=z % 18446744073709551616:=O
 show(((z % 18446744073709551616).toNat:Nat):Int)=_;omega
theorem yp(z:Int)(j:Nat)(d:j<=63):bits .and .i64 z ((2 ^ j-1 :Nat):Int)=z % (2 ^ j:Nat):=by
 have m:2 ^ j<=2 ^ 63:=Nat.pow_le_pow_right Uf d;have g:1<=2 ^ j:=Nat.one_le_two_pow;have f:=jx z;show IntKind.i64.wrap ((BitVec.ofInt 64 z &&& BitVec.ofInt 64 ((2 ^ j-1 :Nat):Int)).toNat:Nat)=_;rw[BitVec.toNat_and]
 have e:(BitVec.ofInt 64 ((2 ^ j-1 :Nat):Int)).toNat=2 ^ j-1:=by
  exact Ob
 rw[e,Nat.and_two_pow_sub_one_eq_mod]
 have a:(((2 ^ j:Nat):Int)) ∣ 18446744073709551616:=by
  exact Oc
 have c:(((BitVec.ofInt 64 z).toNat % 2 ^ j:Nat):Int)=z % (2 ^ j:Nat):=by
  rw[Int.natCast_emod,f,Int.emod_emod_of_dvd _ a]
 rw[c];have k:=Int.emod_nonneg z (b:=((2 ^ j:Nat):Int)) O;have l:=Int.emod_lt_of_pos z (b:=((2 ^ j:Nat):Int)) O;rw[IntKind.wrap_i64];omega
theorem B9(z:Int)(j:Nat)(d:j<=63):bits .and .u64 z ((2 ^ j-1 :Nat):Int)=z % (2 ^ j:Nat):=by
 have m:2 ^ j<=2 ^ 63:=Nat.pow_le_pow_right Uf d;have g:1<=2 ^ j:=Nat.one_le_two_pow;have f:=jx z;show IntKind.u64.wrap ((BitVec.ofInt 64 z &&& BitVec.ofInt 64 ((2 ^ j-1 :Nat):Int)).toNat:Nat)=_;rw[BitVec.toNat_and]
 have e:(BitVec.ofInt 64 ((2 ^ j-1 :Nat):Int)).toNat=2 ^ j-1:=by
  exact Ob
 rw[e,Nat.and_two_pow_sub_one_eq_mod]
 have a:(((2 ^ j:Nat):Int)) ∣ 18446744073709551616:=by
  exact Oc
 have c:(((BitVec.ofInt 64 z).toNat % 2 ^ j:Nat):Int)=z % (2 ^ j:Nat):=by
  rw[Int.natCast_emod,f,Int.emod_emod_of_dvd _ a]
 rw[c];have k:=Int.emod_nonneg z (b:=((2 ^ j:Nat):Int)) O;have l:=Int.emod_lt_of_pos z (b:=((2 ^ j:Nat):Int)) O;rw[IntKind.wrap_u64];omega
theorem MB(b:Int):bits .and .i64 b 63=b % 64:=yp b 6 Uf
theorem MC(b:Int):bits .and .u64 b 63=b % 64:=B9 b 6 Uf
theorem H6(b:Int):bits .and .i64 b 255=b % 256:=yp b 8 Uf
theorem CC(b:Int):bits .and .i64 b 65535=b % 65536:=yp b 16 Uf
theorem l4(b:Int):bits .and .i64 b 4294967295=b % 4294967296:=yp b 32 Uf
theorem EM(x i:Nat)(g:x<2 ^ (i+1)):x ^^^ 2 ^ i=if x<2 ^ i then x+2 ^ i else x-2 ^ i:=by
 have k:2 ^ (i+1)=2*2 ^ i:=by rw[Nat.pow_succ];omega
 split
 .rename_i d
  have c:x+2 ^ i=2 ^ i ||| x:=by rw[Nat.add_comm];exact Nat.two_pow_add_eq_or_of_lt d 1 |> fun e=>Vs
  rw[c];apply Nat.eq_of_testBit_eq;intro j;rw[Nat.testBit_xor,Nat.testBit_or,Nat.testBit_two_pow];by_cases a:i=j
  .subst a;simp[Nat.testBit_lt_two_pow d]
  .simp[a]
 .rename_i d
  obtain⟨b,rfl⟩:∃b,x=2 ^ i+b:=⟨x-2 ^ i,O⟩
  have f:b<2 ^ i:=O
  have c:2 ^ i+b=2 ^ i ||| b:=Nat.two_pow_add_eq_or_of_lt f 1 |> fun e=>Vs
  rw[Nat.add_sub_cancel_left,c];apply Nat.eq_of_testBit_eq;intro j;rw[Nat.testBit_xor,Nat.testBit_or,Nat.testBit_two_pow];by_cases a:i=j
  .subst a;simp[Nat.testBit_lt_two_pow f]
  .simp[a]
theorem hH(z:Int)(i:Nat)(d:i<=62)(c:0<=z)(_:z<(2 ^ (i+1):Nat)):bits .xor .i64 z ((2 ^ i:Nat):Int)=if z<(2 ^ i:Nat)then z+(2 ^ i:Nat)else z-(2 ^ i:Nat):=by
 have g:2 ^ (i+1)=2*2 ^ i:=by rw[Nat.pow_succ];omega
 have j:2 ^ i<=2 ^ 62:=Nat.pow_le_pow_right Uf d;obtain⟨n,rfl⟩:=Int.eq_ofNat_of_zero_le c;have e:=jx (n:Int);have f:=jx ((2 ^ i:Nat):Int);have a:(BitVec.ofInt 64 (n:Int)).toNat=n:=O
 have b:(BitVec.ofInt 64 ((2 ^ i:Nat):Int)).toNat=2 ^ i:=O
 show IntKind.i64.wrap ((BitVec.ofInt 64 (n:Int) ^^^ BitVec.ofInt 64 ((2 ^ i:Nat):Int)).toNat:Nat)=_;rw[BitVec.toNat_xor,a,b,EM n i O,IntKind.wrap_i64];split<;>split<;>omega
theorem Z4(a:Int):(bits .xor .i64 (a % 256) 128)-128=IntKind.i8.wrap a:=by
 have:=hH (a % 256) 7 Uf O O;exact Oa
theorem V5(a:Int):(bits .xor .i64 (a % 65536) 32768)-32768=IntKind.i16.wrap a:=by
 have:=hH (a % 65536) 15 Uf O O;exact Oa
theorem V6(a:Int):(bits .xor .i64 (a % 4294967296) 2147483648)-2147483648=IntKind.i32.wrap a:=by
 have:=hH (a % 4294967296) 31 Uf O O;exact Oa
theorem V7(a:Int)(b:(Lit.int .i64 a).wf=true):bits .xor .i64 (-1) a= -1-a:=by
 have d:=bounds_i64 b;have c:=jx a;show IntKind.i64.wrap ((BitVec.ofInt 64 (-1) ^^^ BitVec.ofInt 64 a).toNat:Nat)=_
 have e:BitVec.ofInt 64 (-1) ^^^ BitVec.ofInt 64 a= ~~~ (BitVec.ofInt 64 a):=by
  have:(BitVec.ofInt 64 (-1))=BitVec.allOnes 64:=Uf
  rw[this,BitVec.allOnes_xor]
 rw[e,BitVec.toNat_not,IntKind.wrap_i64];have:=(BitVec.ofInt 64 a).isLt;omega
def rV(op a:Int):Int:=
 if op=20 then wrap64 (-a)else if op=21 then -1-a else if op=22 then(if a=0 then 1 else 0)else if op=23 then IntKind.i8.wrap a else if op=24 then IntKind.i16.wrap a
 else if op=25 then wrap32 a else if op=26 then a % 256 else if op=27 then a % 65536 else if op=28 then a % 4294967296 else 0
theorem uO{n:Int}(_: -9223372036854775808<=n/\n<=9223372036854775807):wrap64 n=n:=by unfold wrap64;omega
theorem ZJ(a:Int): -128<=IntKind.i8.wrap a/\IntKind.i8.wrap a<=127:=by
 exact Oh
theorem QO(a:Int): -32768<=IntKind.i16.wrap a/\IntKind.i16.wrap a<=32767:=by
 exact Oh
theorem Z5(a:Int):IntKind.u16.wrap a=a % 65536:=by
 simp only[IntKind.wrap,IntKind.bits,IntKind.signed];simp
theorem Z6(a:Int):IntKind.i32.wrap a=wrap32 a:=IntWalk.i32_left a
theorem zbh(a:Int):wrap64 (IntKind.i8.wrap a)=IntKind.i8.wrap a:=uO (by have:=ZJ a;omega)
theorem ZK(a:Int):wrap64 (IntKind.i16.wrap a)=IntKind.i16.wrap a:=uO (by have:=QO a;omega)
theorem zbi(a:Int):wrap64 (IntKind.u16.wrap a)=a % 65536:=by rw[Z5];exact uO O
theorem ZL(a:Int):wrap64 (wrap32 a)=wrap32 a:=uO Ju
theorem zbj(a:Int)(h:(Lit.int .i64 a).wf=true):wrap64 (-1-a)= -1-a:=uO (by have:=bounds_i64 h;omega)
theorem zcu(a:Int):wrap64 (bits .xor .i64 (a % 256) 128-128)=IntKind.i8.wrap a:=by rw[Z4];exact zbh a
theorem zbk(a:Int):wrap64 (bits .xor .i64 (a % 65536) 32768-32768)=IntKind.i16.wrap a:=by rw[V5];exact ZK a
theorem zbl(a:Int):wrap64 (bits .xor .i64 (a % 4294967296) 2147483648-2147483648)=wrap32 a:=by rw[V6,Z6];exact ZL a
def cnt(b:Int):Nat:=(b % 64).toNat
def MD(b:Bool):Int:=if b then 1 else 0
def ur(op b:Int):Bool:=decide (1<=op)&&decide (op<=17)&&!((decide (op=4) || decide (op=5))&&decide (b=0))
def cmp(op a b:Int):Bool:=
 if op=12 then decide (a<b)else if op=13 then decide (a<=b)else if op=14 then decide (b<a)else if op=15 then decide (b<=a)else if op=16 then a == b else a != b
def sft(op a b:Int):Int:=
 if op=9 then wrap64 (a*2 ^ cnt b)else if op=10 then a / 2 ^ cnt b else wrap64 (a % 18446744073709551616 / 2 ^ cnt b)
def Z7(op a b:Int):Int:=if b=0 then 0 else if op=4 then wrap64 (a.tdiv b)else a.tmod b
def uH(op a b:Int):Int:=
 if op=1 then wrap64 (a+b)else if op=2 then wrap64 (a-b)else if op=3 then wrap64 (a*b)
 else if op=4\/op=5 then Z7 op a b
 else if op=6 then bits .and .i64 a b else if op=7 then bits .or .i64 a b else if op=8 then bits .xor .i64 a b
 else if op=9\/op=10\/op=11 then sft op a b else if 12<=op/\op<=17 then MD (cmp op a b)else 0
theorem H7(b:Int):bits .and .u64 (IntKind.u64.wrap b) 63=b % 64:=by rw[MC,IntKind.wrap_u64];omega
theorem EN(op a b:Int)(_:op<1\/17<op):uH op a b=0:=by
 unfold uH
 repeat(rw[Dp O])
theorem EO(op b:Int)(h:op<1\/17<op):ur op b=false:=by
 unfold ur;rcases h with h|h
 .have:decide (1<=op)=false:=by simpa using h
  simp[this]
 .have:decide (op<=17)=false:=by simpa using h
  simp[this]
def zbo:List (List UInt8):=[[],[43],[45],[42],[47],[37],[38],[124],[94],[60,60],[62,62],[62,62,62],[60],[60,61],[62],[62,61],[61,61],[33,61],[38,38],[124,124],[45],[126],[33],[105,56],[105,49,54],[105,51,50],[117,56],[117,49,54],[117,51,50]]
def zbp:List Int:=[0,9,9,10,10,10,5,3,4,8,8,8,7,7,7,7,6,6,2,1,0,0,0,0,0,0,0,0,0]
def ZM(k:Nat):C3:=⟨(zbo.getD k []).toArray⟩
def lvl(k:Nat):Int:=zbp.getD k 0
def xP(op:Int):C3:=if 1<=op/\op<=28 then ZM op.toNat else⟨#[]⟩
def kG(op:Int):Int:=if 1<=op/\op<=28 then lvl op.toNat else 0
end Go.Proofs.YthcmenajdcbnnaaGreatDoor
namespace Go.Proofs.YthcmenajdcbnnaaGreatDoor
open Go.RowKit Tryz
inductive Ex where
 |mk (kind op n:Int) (name:C3) (args:List Ex)
inductive St where
 |mk (kind type:Int) (name:C3) (args:List Ex) (thn els:List St)
structure Pa where
 name:C3
 type:Int
structure Fu where
 name:C3
 type:Int
 params:List Pa
 body:List St
structure Ar where
 name:C3
 size:Int
structure Pr where
 wa:List Ar
 funcs:List Fu
def Ex.kind:Ex->Int | .mk k _ _ _ _=>k
def Ex.op:Ex->Int | .mk _ o _ _ _=>o
def Ex.n:Ex->Int | .mk _ _ n _ _=>n
def Ex.name:Ex->C3 | .mk _ _ _ s _=>s
def Ex.args:Ex->List Ex | .mk _ _ _ _ l=>l
def us(s:C3):Bool:=xI s.data.toList
def eB(s:C3):Bool:=decide (s.size=0)
def hI(t:Int):Bool:=decide (t=1\/t=2)
def zl(k op n:Int)(td:C3)(a:Nat):Bool:=
 if k=1 then decide (0<=n)&&decide (op=0)&&eB td&&decide (a=0)
 else if k=2 then decide (n=0\/n=1)&&decide (op=0)&&eB td&&decide (a=0)
 else if k=3 then us td&&decide (op=0)&&decide (n=0)&&decide (a=0)
 else if k=4 then decide (20<=op/\op<=28)&&decide (n=0)&&eB td&&decide (a=1)
 else if k=5 then decide (0<kG op)&&decide (n=0)&&eB td&&decide (a=2)
 else if k=6 then us td&&decide (op=0)&&decide (n=0)&&decide (a=1)
 else if k=7 then us td&&decide (op=0)&&decide (n=0)&&decide (a<=8)
 else if k=8 then decide (op=0)&&decide (n=0)&&eB td&&decide (a=0)
 else false
mutual
def xx:Ex->Nat->Bool
 |.mk k op n td tc,m=>decide (1<=m)&&zl k op n td tc.length&&zx tc (m-1)
def zx:List Ex->Nat->Bool
 |[],_=>true
 |e::r,m=>xx e m&&zx r m
end
def P6(tc:List Ex):Bool:=match tc with|e::_=>decide (e.kind=7) | []=>false
def zn(k b:Int)(td:C3)(a d c:Nat)(e:Bool):Bool:=
 if k=1 then hI b&&us td&&decide (a=1)&&decide (d=0)&&decide (c=0)
 else if k=2 then decide (b=0)&&us td&&decide (a=1)&&decide (d=0)&&decide (c=0)
 else if k=3 then decide (b=0)&&us td&&decide (a=2)&&decide (d=0)&&decide (c=0)
 else if k=4 then decide (b=0)&&eB td&&decide (a=1)
 else if k=5 then decide (b=0)&&eB td&&decide (a=1)&&decide (c=0)
 else if k=6\/k=7 then decide (b=0)&&eB td&&decide (a=0)&&decide (d=0)&&decide (c=0)
 else if k=8\/k=9 then decide (b=0)&&eB td&&decide (a=1)&&decide (d=0)&&decide (c=0)
 else if k=10 then decide (b=0)&&eB td&&decide (a=1)&&decide (d=0)&&decide (c=0)&&e
 else false
mutual
def uP:St->Nat->Bool
 |.mk k ty td tc tg th,m=>decide (1<=m)&&zn k ty td tc.length tg.length th.length (P6 tc)&&zx tc 100&&fL tg (m-1)&&fL th (m-1)
def fL:List St->Nat->Bool
 |[],_=>true
 |s::r,m=>uP s m&&fL r m
end
def yi(a:Ar):Bool:=us a.name&&decide (1<=a.size/\a.size<=1000)
def ut(x:Pa):Bool:=us x.name&&hI x.type
def yj(f:Fu):Bool:=us f.name&&hI f.type&&decide (f.params.length<=8)&&f.params.all ut&&fL f.body 100
def f5(p:Pr):Bool:=p.wa.all yi&&p.funcs.all yj
def wV(lev:Int)(c:Int×Int×List UInt8):List UInt8:=if c.1=5/\kG c.2.1<lev then 40::(c.2.2++[41])else c.2.2
def yB:List (List UInt8)->List UInt8
 |[]=>[]
 |[x]=>x
 |x::y::r=>x++44::32::yB (y::r)
def ZN(b:Bool):List UInt8:=if b then[116,114,117,101]else[102,97,108,115,101]
def V8(t:Int):List UInt8:=if t=2 then[98,111,111,108]else[105,110,116]
def ME(a:List (Int×Int×List UInt8))(i:Nat):Int×Int×List UInt8:=a.getD i (0,0,[])
def QP(k op n:Int)(td:C3)(a:List (Int×Int×List UInt8)):List UInt8:=
 if k=1 then Lib.itoa n
 else if k=2 then ZN (decide (n=1))
 else if k=3 then td.data.toList
 else if k=4 then(if 23<=op then(xP op).data.toList++40::((ME a 0).2.2++[41])else(xP op).data.toList++wV 11 (ME a 0))
 else if k=5 then wV (kG op) (ME a 0)++32::((xP op).data.toList++32::wV (kG op+1) (ME a 1))
 else if k=6 then td.data.toList++91::((ME a 0).2.2++[93])
 else if k=7 then td.data.toList++40::(yB (a.map (·.2.2))++[41])
 else[114,101,97,100,40,41]
mutual
def yg:Ex->List UInt8
 |.mk k op n td tc=>QP k op n td (g1 tc)
def g1:List Ex->List (Int×Int×List UInt8)
 |[]=>[]
 |e::r=>(e.kind,e.op,yg e)::g1 r
end
def opT(lev:Int)(e:Ex):List UInt8:=wV lev (e.kind,e.op,yg e)
def CD(n:Nat):List UInt8:=List.replicate n 9
def k0(tc:List Ex)(i:Nat):List UInt8:=(ME (g1 tc) i).2.2
def yC(k a:Int)(td:C3)(tc:List Ex):List UInt8:=
 if k=1 then V8 a++32::(td.data.toList++32::61::32::(k0 tc 0++[59]))
 else if k=2 then td.data.toList++32::61::32::(k0 tc 0++[59])
 else if k=3 then td.data.toList++91::(k0 tc 0++93::32::61::32::(k0 tc 1++[59]))
 else if k=4 then 105::102::32::40::(k0 tc 0++[41,32,123])
 else if k=5 then 119::104::105::108::101::32::40::(k0 tc 0++[41,32,123])
 else if k=6 then[98,114,101,97,107,59]
 else if k=7 then[99,111,110,116,105,110,117,101,59]
 else if k=8 then 114::101::116::117::114::110::32::(k0 tc 0++[59])
 else if k=9 then 112::114::105::110::116::40::(k0 tc 0++[41,59])
 else k0 tc 0++[59]
mutual
def P7:St->Nat->List UInt8
 |.mk k ty td tc tg th,t=>
   CD t++(yC k ty td tc++10 ::
    (if k=4 then xQ tg (t+1)++((if th.length=0 then[]else CD t++([125,32,101,108,115,101,32,123]++10::xQ th (t+1)))++(CD t++[125,10]))
     else if k=5 then xQ tg (t+1)++(CD t++[125,10])else[]))
def xQ:List St->Nat->List UInt8
 |[],_=>[]
 |s::r,t=>P7 s t++xQ r t
end
def arT(a:Ar):List UInt8:=[105,110,116,32]++(a.name.data.toList++91::(Lib.itoa a.size++[93,59,10]))
def paT(x:Pa):List UInt8:=V8 x.type++32::x.name.data.toList
def V9(f:Fu):List UInt8:=V8 f.type++32::(f.name.data.toList++40::(yB (f.params.map paT)++[41,32,123,10]++(xQ f.body 1++[125,10])))
def KN(p:Pr):List UInt8:=(p.wa.map arT).flatten++(p.funcs.map V9).flatten
theorem kD(k op n:Int)(td:C3)(tc:List Ex)(m:Nat):xx (.mk k op n td tc) m=(decide (1<=m)&&zl k op n td tc.length&&zx tc (m-1)):=by rw[xx]
theorem uQ(m:Nat):zx [] m=true:=by rw[zx]
theorem qr(e:Ex)(r:List Ex)(m:Nat):zx (e::r) m=(xx e m&&zx r m):=by rw[zx]
theorem qb{l:List Ex}{m:Nat}(c:zx l m=true){i:Nat}{e:Ex}(b:l[i]?=some e):xx e m=true:=by
 induction l generalizing i with
 |nil=>simp at b
 |cons a r d=>
   rw[qr,D2]at c;exact Og
theorem MF(a b:List Ex)(m:Nat):zx (a++b) m=(zx a m&&zx b m):=by
 induction a with
 |nil=>simp[uQ]
 |cons e r c=>rw[Yv,qr,qr,c,Bool.and_assoc]
theorem lJ{l:List Ex}{m i:Nat}{e:Ex}(a:l[i]?=some e):zx (l.take (i+1)) m=(zx (l.take i) m&&xx e m):=by
 rw[Yt,a];simp only[Option.toList_some];rw[MF,qr,uQ,Bool.and_true]
theorem yx{l:List Ex}{m i:Nat}{e:Ex}(c:l[i]?=some e)(a:xx e m=false):zx l m=false:=by
 rw[Cl];intro b;rw[qb b c]at a;cases a
theorem jp(k a:Int)(td:C3)(tc:List Ex)(tg th:List St)(m:Nat):uP (.mk k a td tc tg th) m=(decide (1<=m)&&zn k a td tc.length tg.length th.length (P6 tc)&&zx tc 100&&fL tg (m-1)&&fL th (m-1)):=by rw[uP]
theorem iW(m:Nat):fL [] m=true:=by rw[fL]
theorem ks(e:St)(r:List St)(m:Nat):fL (e::r) m=(uP e m&&fL r m):=by rw[fL]
theorem l5{l:List St}{m:Nat}(c:fL l m=true){i:Nat}{e:St}(b:l[i]?=some e):uP e m=true:=by
 induction l generalizing i with
 |nil=>simp at b
 |cons a r d=>
   rw[ks,D2]at c;exact Og
theorem MG(a b:List St)(m:Nat):fL (a++b) m=(fL a m&&fL b m):=by
 induction a with
 |nil=>simp[iW]
 |cons e r c=>rw[Yv,ks,ks,c,Bool.and_assoc]
theorem kU{l:List St}{m i:Nat}{e:St}(a:l[i]?=some e):fL (l.take (i+1)) m=(fL (l.take i) m&&uP e m):=by
 rw[Yt,a];simp only[Option.toList_some];rw[MG,ks,iW,Bool.and_true]
theorem ze{l:List St}{m i:Nat}{e:St}(c:l[i]?=some e)(a:uP e m=false):fL l m=false:=by
 rw[Cl];intro b;rw[l5 b c]at a;cases a
theorem nX(k op n:Int)(td:C3)(tc:List Ex):yg (.mk k op n td tc)=QP k op n td (g1 tc):=by rw[yg]
theorem hJ(l:List Ex):g1 l=l.map fun e=>(e.kind,e.op,yg e):=by
 induction l with
 |nil=>rw[g1];rfl
 |cons e r a=>rw[g1,a];rfl
theorem Z8{l:List Ex}{i:Nat}{e:Ex}(h:l[i]?=some e):ME (g1 l) i=(e.kind,e.op,yg e):=by
 unfold ME;rw[hJ,Yl,Yn,h];rfl
theorem KO{l:List Ex}{i:Nat}{e:Ex}(h:l[i]?=some e):k0 l i=yg e:=by unfold k0;rw[Z8 h]
theorem rW(l:List (List UInt8))(x:List UInt8):yB (l++[x])=yB l++((if l.length=0 then[]else[44,32])++x):=by
 induction l with
 |nil=>simp[yB]
 |cons a r c=>
   cases r with
   |nil=>simp[yB]
   |cons b t=>
     have e:(a::b::t)++[x]=a::b::(t++[x]):=rfl;rw[e,yB,yB]
     have d:yB (b::(t++[x]))=yB (b::t)++([44,32]++x):=by
      have:=c;simpa using this
     rw[d];simp
theorem H8(k a:Int)(td:C3)(tc:List Ex)(tg th:List St)(t:Nat):P7 (.mk k a td tc tg th) t=
 CD t++(yC k a td tc++10 ::
  (if k=4 then xQ tg (t+1)++((if th.length=0 then[]else CD t++([125,32,101,108,115,101,32,123]++10::xQ th (t+1)))++(CD t++[125,10]))
   else if k=5 then xQ tg (t+1)++(CD t++[125,10])else[])):=by rw[P7]
theorem rX(t:Nat):xQ [] t=[]:=by rw[xQ]
theorem nY(s:St)(r:List St)(t:Nat):xQ (s::r) t=P7 s t++xQ r t:=by rw[xQ]
theorem QQ(a b:List St)(t:Nat):xQ (a++b) t=xQ a t++xQ b t:=by
 induction a with
 |nil=>simp[rX]
 |cons s r c=>rw[Yv,nY,nY,c,Ya]
def Z9(w:C4):Prop:=∀k:Nat,k<=28->w.cell? (0,k*2)=some (.string (ZM k))/\w.cell? (0,k*2+1)=some (.int .i64 (lvl k))
theorem Z9.size{w:C4}(h:Z9 w):0<w.heap.size:=block_lt_of_cell (h 0 O).1
theorem QR(k:Nat)(_:1<=k)(b:k<=28)(w:C4)(a:Z9 w):
 Cz 167 #[((k:Int):Int)] w (Cw (.agg #[.string (ZM k),(lvl k:Int)]) w):=by
 have c:=a.size;obtain⟨_,_⟩:=a k b;clear a;go_enter func167,ntmps167;go_wp2;exact bodyPost_ret (v:=.agg #[.string (ZM k),(lvl k:Int)]) (by simp[results,results167,go_sem]) rfl ⟨rfl,Zb.alloc Zr _⟩
theorem MH(op:Int)(h:op<1\/28<op)(w:C4):
 Cz 167 #[(op:Int)] w (Cw (.agg #[.string ⟨#[]⟩,(0:Int)]) w):=by
 rcases h with h|h
 all_goals
  go_enter func167,ntmps167;go_wp2
  all_goals exact bodyPost_ret (v:=.agg #[.string ⟨#[]⟩,(0:Int)]) (by simp[results,results167,go_sem]) rfl ⟨rfl,Zb.alloc Zr _⟩
theorem MI(op:Int)(w:C4)(d:Z9 w):
 Cz 167 #[(op:Int)] w (Cw (.agg #[.string (xP op),(kG op:Int)]) w):=by
 by_cases a:1<=op/\op<=28
 .obtain⟨k,rfl⟩:=Int.eq_ofNat_of_zero_le (show 0<=op by omega)
  have b:xP (k:Int)=ZM k:=by unfold xP;rw[Dq a];rfl
  have c:kG (k:Int)=lvl k:=by unfold kG;rw[Dq a];rfl
  rw[b,c];exact QR k O O w d
 .have b:xP op=⟨#[]⟩:=by unfold xP;rw[Dp a]
  have c:kG op=0:=by unfold kG;rw[Dp a]
  rw[b,c];exact MH op O w
theorem MJ(op:Int)(w:C4)(b:Z9 w):
 Cz 161 #[(op:Int)] w (Cw (kG op:Int) w):=by
 have c:∀(s:C3) (l:Int) (w:C4),(Instr.field 230 (.agg #[s,(l:Int)]) 1).run Tryz.prog w=.ok (.int .i64 l) w:=fun _ _ _=>by kernel_rfl
 go_enter func161,ntmps161;go_wp2_with (go_at_call 167;refine(MI _ _ b).mono ?_;rintro e w' ⟨rfl,a⟩);go_ret;exact⟨rfl,a⟩
theorem MK(w:C4):Cz 41 #[] w fun e w'=>∃C:Array C5,(∀j:Nat,j<28->C[j]?=some (.string (ZM (j+1))))/\e=.returned (.slice (some ⟨w.heap.size,0,none⟩) 28 28)/\w'=w.alloc (.cells C 9):=by
 go_enter func41,ntmps41;go_wp2;go_ret;refine⟨_,?_,rfl,rfl⟩;intro j _;obtain rfl|rfl|rfl|rfl|rfl|rfl|rfl|rfl|rfl|rfl|rfl|rfl|rfl|rfl|rfl|rfl|rfl|rfl|rfl|rfl|rfl|rfl|rfl|rfl|rfl|rfl|rfl|rfl:j=0\/j=1\/j=2\/j=3\/j=4\/j=5\/j=6\/j=7\/j=8\/j=9\/j=10\/j=11\/j=12\/j=13\/j=14\/j=15\/j=16\/j=17\/j=18\/j=19\/j=20\/j=21\/j=22\/j=23\/j=24\/j=25\/j=26\/j=27:=O
 all_goals rfl
theorem QS(k:Nat)(b:k<28)(w:C4):Cz 21 #[(((k:Int)+1):Int)] w (Cw (.string (ZM (k+1))) w):=by
 go_enter func21,ntmps21;go_wp2_with (go_at_call 41;refine(MK _).mono ?_;rintro e w' ⟨C,a,rfl,rfl⟩;have c:=a k b;clear a);go_ret;exact⟨rfl,Zb.alloc Zr _⟩
theorem ML(op:Int)(h:op<1\/28<op)(w:C4):Cz 21 #[(op:Int)] w (Cw (.string ⟨#[]⟩) w):=by
 rcases h with h|h
 all_goals
  go_enter func21,ntmps21;go_wp2
  all_goals go_ret
  all_goals exact⟨rfl,D4 _ _⟩
theorem MM(op:Int)(w:C4):Cz 21 #[(op:Int)] w (Cw (.string (xP op)) w):=by
 by_cases b:1<=op/\op<=28
 .obtain⟨k,_⟩:=Int.eq_ofNat_of_zero_le (show 0<=op-1 by omega)
  obtain rfl:op=(k:Int)+1:=O
  have a:xP ((k:Int)+1)=ZM (k+1):=by unfold xP;rw[Dq b];rfl
  rw[a];exact QS k O w
 .have a:xP op=⟨#[]⟩:=by unfold xP;rw[Dp b]
  rw[a];exact ML op O w
theorem MN(op:Int)(h:1<=op/\op<=19)(w:C4):Cz 105 #[(op:Int)] w (Cx (kG op:Int) w):=by
 obtain rfl|rfl|rfl|rfl|rfl|rfl|rfl|rfl|rfl|rfl|rfl|rfl|rfl|rfl|rfl|rfl|rfl|rfl|rfl:op=1\/op=2\/op=3\/op=4\/op=5\/op=6\/op=7\/op=8\/op=9\/op=10\/op=11\/op=12\/op=13\/op=14\/op=15\/op=16\/op=17\/op=18\/op=19:=O
 all_goals clear h
 all_goals
  go_enter func105,ntmps105;go_wp2;go_ret;exact⟨rfl,rfl⟩
theorem MO(op:Int)(a:op<1\/19<op):kG op=0:=by
 unfold kG;split
 .rename_i b
  obtain rfl|rfl|rfl|rfl|rfl|rfl|rfl|rfl|rfl:op=20\/op=21\/op=22\/op=23\/op=24\/op=25\/op=26\/op=27\/op=28:=O
  all_goals rfl
 .rfl
theorem H9(op:Int)(a:op<1\/19<op)(w:C4):Cz 105 #[(op:Int)] w (Cx (0:Int) w):=by
 have n1:(op == 1)=false:=Ug
 have n2:(op == 2)=false:=Ug
 have m:(op == 3)=false:=Ug
 have n:(op == 4)=false:=Ug
 have o:(op == 5)=false:=Ug
 have p:(op == 6)=false:=Ug
 have q:(op == 7)=false:=Ug
 have r:(op == 8)=false:=Ug
 have s:(op == 9)=false:=Ug
 have b:(op == 10)=false:=Ug
 have c:(op == 11)=false:=Ug
 have d:(op == 12)=false:=Ug
 have e:(op == 13)=false:=Ug
 have f:(op == 14)=false:=Ug
 have g:(op == 15)=false:=Ug
 have i:(op == 16)=false:=Ug
 have j:(op == 17)=false:=Ug
 have k:(op == 18)=false:=Ug
 have l:(op == 19)=false:=Ug
 clear a;go_enter func105,ntmps105;go_wp2;go_ret;exact⟨rfl,rfl⟩
theorem rY(op:Int)(w:C4):Cz 105 #[(op:Int)] w (Cx (kG op:Int) w):=by
 by_cases h:1<=op/\op<=19
 .exact MN op h w
 .rw[MO op O]
  exact H9 op O w
