import Derived.Test.YtjadgpiafjdnfaaGreatDoorAoZed
import Derived.Lib.AtoiAllCases
import Derived.Lib.SlTrimSet
import Derived.Lib.IndexLaws
set_option linter.unusedSimpArgs false
set_option linter.unusedVariables false
set_option maxRecDepth 100000
namespace Go.Proofs.YtjadgpiafjdnfaaGreatDoor
open Go.RowKit
structure fH where
 kind:Int
 text:List UInt8
 line:Nat
def lD(c:UInt8):Bool:=(65<=c.toNat&&c.toNat<=90) || (97<=c.toNat&&c.toNat<=122) || c.toNat == 95
def kl(c:UInt8):Bool:=48<=c.toNat&&c.toNat<=57
def qq(c:UInt8):Bool:=lD c || kl c
def y7(c:UInt8):Bool:=c.toNat == 32 || c.toNat == 9 || c.toNat == 13 || c.toNat == 10
def QV:List (List UInt8):=
 [[105,110,116],[98,111,111,108],[105,102],[101,108,115,101],[119,104,105,108,101],[98,114,101,97,107],
  [99,111,110,116,105,110,117,101],[114,101,116,117,114,110],[112,114,105,110,116],[114,101,97,100],
  [116,114,117,101],[102,97,108,115,101],[105,56],[105,49,54],[105,51,50],[117,56],[117,49,54],[117,51,50]]
def xr(t:List UInt8):Bool:=QV.contains t
def xI(t:List UInt8):Bool:=(!t.isEmpty)&&decide (t.length<=20)&&lD (t.headD 0)&&t.all qq&&!xr t
def kT(tk:Nat)(l:List UInt8):Nat:=l.foldl (fun a c=>a*10+(c.toNat-48)) tk
theorem g6(tk:Nat):kT tk []=tk:=by unfold kT;rw[List.foldl_nil]
theorem nR(tk:Nat)(c:UInt8)(r:List UInt8):kT tk (c::r)=kT (tk*10+(c.toNat-48)) r:=by unfold kT;rw[List.foldl_cons]
theorem EQ(a b:List UInt8)(tk:Nat):kT tk (a++b)=kT (kT tk a) b:=by unfold kT;rw[List.foldl_append]
theorem iS(l:List UInt8)(tk:Nat)(c:UInt8):kT tk (l++[c])=kT tk l*10+(c.toNat-48):=by rw[EQ,nR,g6]
def xM(t:List UInt8):Bool:=(!t.isEmpty)&&t.all kl&&(t == [48] || t.headD 0 != 48)&&decide (kT 0 t<9223372036854775808)
def y8(t:List UInt8):Option Int:=if xr t then some 2 else if xI t then some 1 else if xM t then some 0 else none
def H9:List (List UInt8):=[[61,61],[33,61],[60,61],[62,61],[60,60],[62,62],[38,38],[124,124]]
def CG:List (List UInt8):=[[40],[41],[123],[125],[91],[93],[44],[59],[61],[60],[62],[43],[45],[42],[47],[37],[38],[124],[94],[126],[33]]
def g7:List (List UInt8):=[62,62,62]::(H9++CG)
def yG(l:List UInt8):List UInt8:=(g7.find? (fun t=>Lib.hasPrefix l t)).getD []
def wW(l:List UInt8):Option (Int×List UInt8):=
 if l.takeWhile qq≠[]then(y8 (l.takeWhile qq)).map fun k=>(k,l.takeWhile qq)
 else if yG l≠[]then some (2,yG l)else none
def qG:List UInt8->Nat->List fH×Option Nat
 |[],line=>([⟨3,[],line⟩],none)
 |c::r,line=>
   if c.toNat == 10 then qG r (line+1)
   else if y7 c then qG r line
   else if c.toNat == 47&&r.head? == some 47 then qG (r.dropWhile (fun d=>d.toNat != 10)) line
   else match wW (c::r)with
    |none=>([],some line)
    |some (k,t)=>(⟨k,t,line⟩::(qG (r.drop (t.length-1)) line).1,(qG (r.drop (t.length-1)) line).2)
termination_by l=>l.length
decreasing_by
 all_goals simp only[Du,Ys]
 all_goals first
  |omega
  |exact Nat.lt_succ_of_le (List.IsSuffix.length_le (List.dropWhile_suffix _))
def uO(c:Int):Bool:=decide ((65<=c/\c<=90)\/(97<=c/\c<=122)\/c=95)
def g8(c:Int):Bool:=decide (48<=c/\c<=57)
theorem iT(c:UInt8):uO (c.toNat:Int)=lD c:=by
 unfold uO lD;rw[Yk];simp;omega
theorem iU(c:UInt8):g8 (c.toNat:Int)=kl c:=by
 unfold g8 kl;rw[Yk];simp;omega
theorem MJ(c:Int)(_:128<=c):uO c=false:=by unfold uO;simp;omega
theorem MK(c:Int)(_:128<=c):g8 c=false:=by unfold g8;simp;omega
theorem ML(c:UInt8)(h:qq c=true):c.toNat<128:=by
 simp[qq,lD,kl]at h;omega
theorem lE(c:UInt8)(h:lD c=true):kl c=false:=by
 simp[lD,kl]at h ⊢;omega
theorem WR(p:UInt8->Bool)(l:List UInt8)(k:Nat)(f:k<=l.length)(d:∀(j:Nat) b,j<k->l[j]?=some b->p b=true)(e:∀b,l[k]?=some b->p b=false):(l.takeWhile p)=l.take k:=by
 induction l generalizing k with
 |nil=>simp
 |cons a t g=>
   cases k with
   |zero=>
     have:=e a rfl;simp[List.takeWhile,this]
   |succ k=>
     have:=d 0 a O rfl;rw[List.takeWhile_cons_of_pos this,Y6,g k (by simpa using f) (fun j b _ c=>d (j+1) b O Xk) (fun b c=>e b Xk)]
theorem l4(p:UInt8->Bool)(l:List UInt8)(k:Nat)(d:k<=l.length)(a:∀(j:Nat) b,j<k->l[j]?=some b->p b=true)(c:∀b,l[k]?=some b->p b=false):(l.takeWhile p).length=k:=by
 rw[WR p l k d a c,Yg];omega
def xN(l:List UInt8):Nat:=(l.takeWhile qq).length
theorem QW(l:List UInt8):xN l<=l.length:=List.IsPrefix.length_le (Cu _)
theorem MM(l:List UInt8):xN l=l.length↔l.all qq=true:=by
 unfold xN;constructor
 .intro a
  have:=List.IsPrefix.eq_of_length (Cu (l:=l) qq) a;rw[<-this];exact List.all_takeWhile
 .intro a
  exact l4 qq l l.length Zr (fun j b _ c=>List.all_eq_true.1 a b (Yc c)) (fun b c=>Kj)
theorem QX(l:List UInt8)(e:l≠[])(f:l.length<=20):xI l=((!kl (l.headD 0))&&decide (xN l=l.length)&&!xr l):=by
 cases l with
 |nil=>exact absurd rfl e
 |cons c r=>
   rw[Yk];simp only[xI,MM,Cp,D3,decide_eq_true_eq];simp only[List.isEmpty_cons,Bool.not_false,f,true_and,List.all_cons,D3];constructor
   .rintro⟨⟨i,a,b⟩,d⟩
    exact⟨⟨by simp[lE c i],a,b⟩,d⟩
   .rintro⟨⟨g,a,b⟩,d⟩
    refine⟨⟨?_,a,b⟩,d⟩;simp[qq]at a;rcases a with a|a
    .exact a
    .simp[a]at g
theorem z4:xI []=false:=rfl
theorem rO(l:List UInt8)(_:20<l.length):xI l=false:=by
 simp[xI];omega
def nl(l:List UInt8):Nat:=l.countP (fun d=>d.toNat == 10)
def nS(l:List UInt8):Nat:=if Lib.hasPrefix l [47,47]then(l.takeWhile (fun d=>d.toNat != 10)).length else(l.takeWhile y7).length
theorem CH(p:UInt8->Bool)(l:List UInt8):l.dropWhile p=l.drop (l.takeWhile p).length:=by
 have h:=List.takeWhile_append_dropWhile (p:=p) (l:=l)
 conv=>rhs;rw[<-h]
 rw[List.drop_append];simp
theorem MN(c:UInt8)(h:c.toNat=10):y7 c=true:=by simp[y7,h]
theorem g9:∀(l:List UInt8) (a:Nat),qG l a=qG (l.drop (l.takeWhile y7).length) (a+nl (l.take (l.takeWhile y7).length))
 |[],a=>by simp[nl]
 | c::r,a=>by
   by_cases d:y7 c=true
   .rw[List.takeWhile_cons_of_pos d]
    simp only[Du,List.drop_succ_cons,Y6];rw[qG];by_cases b:c.toNat=10
    .simp only[b,beq_self_eq_true,if_true]
     rw[g9 r (a+1)];congr 1;simp[nl,b];omega
    .have:(c.toNat == 10)=false:=by simpa using b
     simp only[this,d,if_true];rw[Dp Uu,g9 r a];congr 1;simp[nl,b]
   .rw[List.takeWhile_cons_of_neg d]
    simp[nl]
theorem vM{l:List UInt8}(h:Lib.hasPrefix l [47,47]=true):∃r,l=47::47::r:=by
 match l,h with
 |[],h=>simp[Lib.hasPrefix]at h
 |[a],h=>simp[Lib.hasPrefix]at h
 |a::b::r,h=>
   simp[Lib.hasPrefix]at h;exact⟨r,by rw[<-h.1,<-h.2]⟩
theorem KZ(l:List UInt8):nl (l.take (l.takeWhile (fun d=>d.toNat != 10)).length)=0:=by
 have e:l.take (l.takeWhile (fun d=>d.toNat != 10)).length=l.takeWhile (fun d=>d.toNat != 10):=(List.prefix_iff_eq_take.1 (Cu _)).symm;rw[e];unfold nl;rw[List.countP_eq_zero];intro a b;have:=List.all_takeWhile (p:=fun d:UInt8=>d.toNat != 10) (l:=l);have:=List.all_eq_true.1 this a b;simpa using this
theorem QY(l:List UInt8)(a:Nat):qG l a=qG (l.drop (nS l)) (a+nl (l.take (nS l))):=by
 unfold nS;split
 .rename_i b
  obtain⟨r,rfl⟩:=vM b;rw[KZ,<-CH]
  conv=>lhs;rw[qG]
  rfl
 .exact g9 l a
theorem QZ{c:UInt8}{r:List UInt8}(a:nS (c::r)=0):y7 c=false/\(c.toNat == 47&&r.head? == some 47)=false:=by
 unfold nS at a;split at a
 .rename_i f
  obtain⟨k,e⟩:=vM f;rw[e]at a;simp at a
 .rename_i f
  refine⟨?_,?_⟩
  .cases hb:y7 c with
   |false=>rfl
   |true=>rw[List.takeWhile_cons_of_pos hb]at a;simp at a
  .rw[Cl]
   intro g;apply f;simp at g;obtain⟨i,d⟩:=g;have j:c=47:=UInt8.toNat_inj.1 i;cases r with
   |nil=>simp at d
   |cons b t=>
     simp at d;subst j d;rfl
theorem z5{c:UInt8}{r:List UInt8}(d:nS (c::r)=0)(a:Nat):qG (c::r) a=match wW (c::r)with
 |none=>([],some a)
 |some (k,t)=>(⟨k,t,a⟩::(qG (r.drop (t.length-1)) a).1,(qG (r.drop (t.length-1)) a).2):=by
 obtain⟨b,g⟩:=QZ d
 have f:(c.toNat == 10)=false:=by
  rw[Cl];intro e;rw[MN c Kg]at b;cases b
 rw[qG,Dp Kk,Dp (by simp[b]),Dp (by rw[g];simp)]
theorem WS(l:List UInt8):∀(tk:Nat),tk<=kT tk l:=by
 induction l with
 |nil=>intro tk;rw[g6];exact Dz _
 |cons c r a=>
   intro tk;have b:=a (tk*10+(c.toNat-48));rw[nR];omega
theorem rP{α:Type}(p:α->Bool):∀(a:List α) (k:Nat) (t:α),a[k]?=some t->p t=true->(∀(j:Nat) b,j<k->a[j]?=some b->p b=false)->a.find? p=some t
 |[],k,t,h,_,_=>Xo
 | x::a,0,t,h,hp,_=>by
   simp at h;subst h;simp[List.find?,hp]
 | x::a,k+1,t,h,hp,hn=>by
   have c:=hn 0 x O rfl;rw[List.find?_cons_of_neg (by simp[c])];exact rP p a k t Ve hp (fun j b _ d=>hn (j+1) b O Xl)
theorem IA{α:Type}(p:α->Bool)(b:List α)(d:∀(j:Nat) a,b[j]?=some a->p a=false):b.find? p=none:=by
 rw[List.find?_eq_none];intro x e;obtain⟨j,c⟩:=List.mem_iff_getElem?.1 e;simp[d j x c]
