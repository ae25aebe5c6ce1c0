import Derived.Test.YthcmenajdcbnnaaGreatDoorAnZee
import Derived.Lib.AtoiAllCases
import Derived.Lib.SlTrimSet
import Derived.Lib.IndexLaws
import Derived.Test.YthcmenajdcbnnaaGreatDoorShelf
import Derived.WalkSpells
import Derived.WalkLawsBesides
import Derived.Lib.Walk
import Derived.Deep.Light
import Derived.Lib.SmallJoins
import Derived.Lib.ItoaMem
set_option linter.unusedSimpArgs false
set_option linter.unusedVariables false
set_option maxRecDepth 100000
namespace Go.Proofs.YthcmenajdcbnnaaGreatDoor
open Go.RowKit Tryz
theorem Oa{p:Prop}(h:p:=by
 go_wp2
 all_goals go_ret
 all_goals refine⟨zC ?_,rfl⟩
 all_goals go_light
 all_goals(unfold ul;rw[Yg];simp;omega)):p:=h
theorem Ob{p:Prop}(h:p:=by
 go_wp2
 all_goals go_ret
 all_goals refine⟨zC ?_,rfl⟩
 all_goals go_light
 all_goals(unfold gK;rw[Yg];simp;omega)):p:=h
theorem Oc{p:Prop}(h:p:=by
 go_wp2
 all_goals go_ret
 all_goals refine⟨zC ?_,rfl⟩
 all_goals go_light
 all_goals simp_all [xO,KX]):p:=h
theorem Od{p:Prop}(h:p:=by
 cases i with
 |zero=>simp at b;subst b;exact c.1
 |succ i=>exact d c.2 Uz):p:=h
theorem Oe{p:Prop}(h:p:=by
 simp only[IntKind.wrap,IntKind.bits,IntKind.signed];simp;split<;>omega):p:=h
theorem Of{p:Prop}(h:p:=by
 clear a b;go_enter func106,ntmps106;go_wp2;go_ret
 exact⟨rfl,rfl⟩):p:=h
structure dY where
 kind:Int
 text:List UInt8
 line:Nat
def ui(c:UInt8):Bool:=(65<=c.toNat&&c.toNat<=90) || (97<=c.toNat&&c.toNat<=122) || c.toNat == 95
def kK(c:UInt8):Bool:=48<=c.toNat&&c.toNat<=57
def q9(c:UInt8):Bool:=ui c || kK c
def yi(c:UInt8):Bool:=c.toNat == 32 || c.toNat == 9 || c.toNat == 13 || c.toNat == 10
def KX:List (List UInt8):=
 [[105,110,116],[98,111,111,108],[105,102],[101,108,115,101],[119,104,105,108,101],[98,114,101,97,107],
  [99,111,110,116,105,110,117,101],[114,101,116,117,114,110],[112,114,105,110,116],[114,101,97,100],
  [116,114,117,101],[102,97,108,115,101],[105,56],[105,49,54],[105,51,50],[117,56],[117,49,54],[117,51,50]]
def xO(t:List UInt8):Bool:=KX.contains t
def xC(t:List UInt8):Bool:=(!t.isEmpty)&&decide (t.length<=20)&&ui (t.headD 0)&&t.all q9&&!xO t
def kI(tk:Nat)(l:List UInt8):Nat:=l.foldl (fun a c=>a*10+(c.toNat-48)) tk
theorem uj(tk:Nat):kI tk []=tk:=by unfold kI;rw[List.foldl_nil]
theorem hT(tk:Nat)(c:UInt8)(r:List UInt8):kI tk (c::r)=kI (tk*10+(c.toNat-48)) r:=by unfold kI;rw[List.foldl_cons]
theorem DV(a b:List UInt8)(tk:Nat):kI tk (a++b)=kI (kI tk a) b:=by unfold kI;rw[List.foldl_append]
theorem uk(l:List UInt8)(tk:Nat)(c:UInt8):kI tk (l++[c])=kI tk l*10+(c.toNat-48):=by rw[DV,hT,uj]
def xQ(t:List UInt8):Bool:=(!t.isEmpty)&&t.all kK&&(t == [48] || t.headD 0 != 48)&&decide (kI 0 t<9223372036854775808)
def yj(t:List UInt8):Option Int:=if xO t then some 2 else if xC t then some 1 else if xQ t then some 0 else none
def H8:List (List UInt8):=[[61,61],[33,61],[60,61],[62,61],[60,60],[62,62],[38,38],[124,124]]
def BX:List (List UInt8):=[[40],[41],[123],[125],[91],[93],[44],[59],[61],[60],[62],[43],[45],[42],[47],[37],[38],[124],[94],[126],[33]]
def gJ:List (List UInt8):=[62,62,62]::(H8++BX)
def yL(l:List UInt8):List UInt8:=(gJ.find? (fun t=>Lib.hasPrefix l t)).getD []
def wI(l:List UInt8):Option (Int×List UInt8):=
 if l.takeWhile q9≠[]then(yj (l.takeWhile q9)).map fun k=>(k,l.takeWhile q9)
 else if yL l≠[]then some (2,yL l)else none
def qE:List UInt8->Nat->List dY×Option Nat
 |[],line=>([⟨3,[],line⟩],none)
 |c::r,line=>
   if c.toNat == 10 then qE r (line+1)
   else if yi c then qE r line
   else if c.toNat == 47&&r.head? == some 47 then qE (r.dropWhile (fun d=>d.toNat != 10)) line
   else match wI (c::r)with
    |none=>([],some line)
    |some (k,t)=>(⟨k,t,line⟩::(qE (r.drop (t.length-1)) line).1,(qE (r.drop (t.length-1)) line).2)
termination_by l=>l.length
decreasing_by
 all_goals simp only[Dp,Yq]
 all_goals first
  |omega
  |exact Nat.lt_succ_of_le (List.IsSuffix.length_le (List.dropWhile_suffix _))
def ul(c:Int):Bool:=decide ((65<=c/\c<=90)\/(97<=c/\c<=122)\/c=95)
def gK(c:Int):Bool:=decide (48<=c/\c<=57)
theorem hU(c:UInt8):ul (c.toNat:Int)=ui c:=by
 unfold ul ui;rw[Yg];simp;omega
theorem hV(c:UInt8):gK (c.toNat:Int)=kK c:=by
 unfold gK kK;rw[Yg];simp;omega
theorem MS(c:Int)(_:128<=c):ul c=false:=by unfold ul;simp;omega
theorem MT(c:Int)(_:128<=c):gK c=false:=by unfold gK;simp;omega
theorem MU(c:UInt8)(h:q9 c=true):c.toNat<128:=by
 simp[q9,ui,kK]at h;omega
theorem i6(c:UInt8)(h:ui c=true):kK c=false:=by
 simp[ui,kK]at h ⊢;omega
theorem XO(p:UInt8->Bool)(l:List UInt8)(k:Nat)(f:k<=l.length)(d:∀(j:Nat) b,j<k->l[j]?=some b->p b=true)(e:∀b,l[k]?=some b->p b=false):(l.takeWhile p)=l.take k:=by
 induction l generalizing k with
 |nil=>simp
 |cons a t g=>
   cases k with
   |zero=>
     have:=e a rfl;simp[List.takeWhile,this]
   |succ k=>
     have:=d 0 a O rfl;rw[List.takeWhile_cons_of_pos this,Y3,g k (by simpa using f) (fun j b _ c=>d (j+1) b O Xe) (fun b c=>e b Xe)]
theorem lR(p:UInt8->Bool)(l:List UInt8)(k:Nat)(d:k<=l.length)(a:∀(j:Nat) b,j<k->l[j]?=some b->p b=true)(c:∀b,l[k]?=some b->p b=false):(l.takeWhile p).length=k:=by
 rw[XO p l k d a c,Yc];omega
def xR(l:List UInt8):Nat:=(l.takeWhile q9).length
theorem QW(l:List UInt8):xR l<=l.length:=List.IsPrefix.length_le (Cs _)
theorem MV(l:List UInt8):xR l=l.length↔l.all q9=true:=by
 unfold xR;constructor
 .intro a
  have:=List.IsPrefix.eq_of_length (Cs (l:=l) q9) a;rw[<-this];exact List.all_takeWhile
 .intro a
  exact lR q9 l l.length Zr (fun j b _ c=>List.all_eq_true.1 a b (Ye c)) (fun b c=>Kd)
theorem QX(l:List UInt8)(e:l≠[])(f:l.length<=20):xC l=((!kK (l.headD 0))&&decide (xR l=l.length)&&!xO l):=by
 cases l with
 |nil=>exact absurd rfl e
 |cons c r=>
   rw[Yg];simp only[xC,MV,Cn,Dv,decide_eq_true_eq];simp only[List.isEmpty_cons,Bool.not_false,f,true_and,Ca,Dv];constructor
   .rintro⟨⟨i,a,b⟩,d⟩
    exact⟨⟨by simp[i6 c i],a,b⟩,d⟩
   .rintro⟨⟨g,a,b⟩,d⟩
    refine⟨⟨?_,a,b⟩,d⟩;simp[q9]at a;rcases a with a|a
    .exact a
    .simp[a]at g
theorem x7:xC []=false:=rfl
theorem rM(l:List UInt8)(_:20<l.length):xC l=false:=by
 simp[xC];omega
def nl(l:List UInt8):Nat:=l.countP (fun d=>d.toNat == 10)
def nC(l:List UInt8):Nat:=if Lib.hasPrefix l [47,47]then(l.takeWhile (fun d=>d.toNat != 10)).length else(l.takeWhile yi).length
theorem BY(p:UInt8->Bool)(l:List UInt8):l.dropWhile p=l.drop (l.takeWhile p).length:=by
 have h:=List.takeWhile_append_dropWhile (p:=p) (l:=l)
 conv=>rhs;rw[<-h]
 rw[List.drop_append];simp
theorem MX(c:UInt8)(h:c.toNat=10):yi c=true:=by simp[yi,h]
theorem gL:∀(l:List UInt8) (a:Nat),qE l a=qE (l.drop (l.takeWhile yi).length) (a+nl (l.take (l.takeWhile yi).length))
 |[],a=>by simp[nl]
 | c::r,a=>by
   by_cases d:yi c=true
   .rw[List.takeWhile_cons_of_pos d]
    simp only[Dp,List.drop_succ_cons,Y3];rw[qE];by_cases b:c.toNat=10
    .simp only[b,beq_self_eq_true,if_true]
     rw[gL r (a+1)];congr 1;simp[nl,b];omega
    .have:(c.toNat == 10)=false:=by simpa using b
     simp only[this,d,if_true];rw[Dl Ur,gL r a];congr 1;simp[nl,b]
   .rw[List.takeWhile_cons_of_neg d]
    simp[nl]
theorem vj{l:List UInt8}(h:Lib.hasPrefix l [47,47]=true):∃r,l=47::47::r:=by
 match l,h with
 |[],h=>simp[Lib.hasPrefix]at h
 |[a],h=>simp[Lib.hasPrefix]at h
 |a::b::r,h=>
   simp[Lib.hasPrefix]at h;exact⟨r,by rw[<-h.1,<-h.2]⟩
theorem KY(l:List UInt8):nl (l.take (l.takeWhile (fun d=>d.toNat != 10)).length)=0:=by
 have e:l.take (l.takeWhile (fun d=>d.toNat != 10)).length=l.takeWhile (fun d=>d.toNat != 10):=(List.prefix_iff_eq_take.1 (Cs _)).symm;rw[e];unfold nl;rw[List.countP_eq_zero];intro a b;have:=List.all_takeWhile (p:=fun d:UInt8=>d.toNat != 10) (l:=l);have:=List.all_eq_true.1 this a b;simpa using this
theorem QY(l:List UInt8)(a:Nat):qE l a=qE (l.drop (nC l)) (a+nl (l.take (nC l))):=by
 unfold nC;split
 .rename_i b
  obtain⟨r,rfl⟩:=vj b;rw[KY,<-BY]
  conv=>lhs;rw[qE]
  rfl
 .exact gL l a
theorem QZ{c:UInt8}{r:List UInt8}(a:nC (c::r)=0):yi c=false/\(c.toNat == 47&&r.head? == some 47)=false:=by
 unfold nC at a;split at a
 .rename_i f
  obtain⟨k,e⟩:=vj f;rw[e]at a;simp at a
 .rename_i f
  refine⟨?_,?_⟩
  .cases hb:yi c with
   |false=>rfl
   |true=>rw[List.takeWhile_cons_of_pos hb]at a;simp at a
  .rw[Ci]
   intro g;apply f;simp at g;obtain⟨i,d⟩:=g;have j:c=47:=UInt8.toNat_inj.1 i;cases r with
   |nil=>simp at d
   |cons b t=>
     simp at d;subst j d;rfl
theorem x8{c:UInt8}{r:List UInt8}(d:nC (c::r)=0)(a:Nat):qE (c::r) a=match wI (c::r)with
 |none=>([],some a)
 |some (k,t)=>(⟨k,t,a⟩::(qE (r.drop (t.length-1)) a).1,(qE (r.drop (t.length-1)) a).2):=by
 obtain⟨b,g⟩:=QZ d
 have f:(c.toNat == 10)=false:=by
  rw[Ci];intro e;rw[MX c Ku]at b;cases b
 rw[qE,Dl Ke,Dl (by simp[b]),Dl (by rw[g];simp)]
theorem XP(l:List UInt8):∀(tk:Nat),tk<=kI tk l:=by
 induction l with
 |nil=>intro tk;rw[uj];exact Dy _
 |cons c r a=>
   intro tk;have b:=a (tk*10+(c.toNat-48));rw[hT];omega
theorem rN{α:Type}(p:α->Bool):∀(a:List α) (k:Nat) (t:α),a[k]?=some t->p t=true->(∀(j:Nat) b,j<k->a[j]?=some b->p b=false)->a.find? p=some t
 |[],k,t,h,_,_=>Xs
 | x::a,0,t,h,hp,_=>by
   simp at h;subst h;simp[List.find?,hp]
 | x::a,k+1,t,h,hp,hn=>by
   have c:=hn 0 x O rfl;rw[List.find?_cons_of_neg (by simp[c])];exact rN p a k t Vj hp (fun j b _ d=>hn (j+1) b O Xi)
theorem H9{α:Type}(p:α->Bool)(b:List α)(d:∀(j:Nat) a,b[j]?=some a->p a=false):b.find? p=none:=by
 rw[List.find?_eq_none];intro x e;obtain⟨j,c⟩:=List.mem_iff_getElem?.1 e;simp[d j x c]
theorem qK{k:IntKind}{a b:Int}(h:a=b):Ending.returned (.int k a)=.returned (.int k b):=by rw[h]
theorem zC{a b:Bool}(h:a=b):Ending.returned (.bool a)=.returned (.bool b):=by rw[h]
theorem rO(c:Int)(w:C3):Cy 151 #[.int .i32 c] w (Cw (ul c) w):=by
 go_enter func151,ntmps151;exact Oa
theorem DW(c:Int)(w:C3):Cy 47 #[.int .u8 c] w (Cw (ul c) w):=by
 go_enter func47,ntmps47;exact Oa
theorem nD(c:Int)(w:C3):Cy 129 #[.int .i32 c] w (Cw (gK c) w):=by
 go_enter func129,ntmps129;exact Ob
theorem IA(c:Int)(w:C3):Cy 48 #[.int .u8 c] w (Cw (gK c) w):=by
 go_enter func48,ntmps48;exact Ob
theorem Q0(s:C2)(w:C3):Cy 131 #[s] w (Cw (xO s.data.toList) w):=by
 rw[<-Yh];go_enter func131,ntmps131;exact Oc
theorem MY(s:C2)(w:C3):Cy 49 #[s] w (Cw (xO s.data.toList) w):=by
 rw[<-Yh];go_enter func49,ntmps49;exact Oc
theorem rP{B:Nat}{a w:C3}(b:Below B a w)(c:B<=w.heap.size)(s:C2)(d:Nat):Below B a (w.iter s d):=b.alloc c _
theorem uM(s:C2)(a:Nat)(b:a<s.size):s.data.toList[a]?=some s[a]:=by
 rw[Array.getElem?_toList];exact Array.getElem?_eq_getElem b
theorem Q1{s:C2}{c:Nat}(g:c<s.size)(d:∀(j:Nat) b,j<c->s.data.toList[j]?=some b->q9 b=true)(f:q9 s[c]=true):
 ∀(j:Nat) b,j<c+1->s.data.toList[j]?=some b->q9 b=true:=by
 intro j b _ a;by_cases e:j=c
 .subst e
  rw[uM s j g]at a;injection a with a;exact a▸f
 .exact d j b O a
theorem y0{s:C2}{a:Nat}(e:a<=s.size)(f:∀(j:Nat) b,j<a->s.data.toList[j]?=some b->q9 b=true)(g:∀e:a<s.size,q9 s[a]=false):
 xR s.data.toList=a:=
 lR q9 _ a e f (fun b c=>by
  have d:a<s.size:=(List.getElem?_eq_some_iff.1 c).1;rw[uM s a d]at c;injection c with c
  exact c▸g d)
theorem Q2(s:C2)(w:C3):Cy 130 #[s] w (Cv (xR s.data.toList:Int) w):=by
 have v:s.data.toList.length=s.size:=rfl;go_enter func130,ntmps130;go_wp2
 go_loopw [3] (fun _ w'=>∃a:Nat,w'=w.iter s a/\a<=s.size/\∀(j:Nat) b,j<a->s.data.toList[j]?=some b->q9 b=true) (fun _ w'=>s.size-w'.iterPos w.heap.size)
 case atStart=>exact⟨0,rfl,Dw _,fun j b t=>absurd t O⟩
 case round=>
  obtain⟨a,rfl,p,l⟩:=hrel;have g:=U l;clear l;by_cases c:a<s.size
  .have m:∀f,(Instr.next (.pointer (some ⟨w.heap.size,0,none⟩)) true f).run Tryz.prog (w.iter s a)=_:=fun f=>run_next_any w s a f c
   by_cases d:q9 s[a]=true
   .have k:=MU _ d
    rw[decode_ascii s a c k]at m
    have n:ul (s[a].toNat:Int)=true\/gK (s[a].toNat:Int)=true:=by
     rw[hU,hV];simpa[q9]using d
    have q:=U n;have i:=U d;clear n d;go_wp2_with (first|(go_at_call 151;(with_reducible refine(rO _ _).mono ?_);rintro e w' ⟨rfl,rfl⟩)|(go_at_call 129;(with_reducible refine(nD _ _).mono ?_);rintro e w' ⟨rfl,rfl⟩))
    all_goals first
     | (go_roundw
        case rel=>exact⟨a+1,rfl,c,Q1 c g.o i.o⟩
        case measure=>simp;omega)
     |(exfalso;have:=q.o;simp_all;done)
   .have i:=U d
    have u:ul ((Utf8.decode s a).1 :Int)=false/\gK ((Utf8.decode s a).1 :Int)=false:=by
     by_cases k:s[a].toNat<128
     .rw[decode_ascii s a c k]
      show ul (s[a].toNat:Int)=false/\gK (s[a].toNat:Int)=false;rw[hU,hV];simpa[q9]using d
     .have:=(decode_high s a c O).1
      exact⟨MS _ O,MT _ O⟩
    obtain⟨_,_⟩:=u;clear d;go_wp2_with (first|(go_at_call 151;(with_reducible refine(rO _ _).mono ?_);rintro e w' ⟨rfl,rfl⟩)|(go_at_call 129;(with_reducible refine(nD _ _).mono ?_);rintro e w' ⟨rfl,rfl⟩));go_ret;refine⟨qK ?_,rP Zb Zr _ _⟩;rw[y0 p g.o (fun _=>by simpa using i.o)]
  .have m:∀f,(Instr.next (.pointer (some ⟨w.heap.size,0,none⟩)) true f).run Tryz.prog (w.iter s a)=_:=fun f=>run_next_end w s a f c
   go_wp2;go_ret;refine⟨qK ?_,rP Zb Zr _ _⟩;have e:a=s.size:=O
   subst e;rw[y0 p g.o (fun r=>absurd r c)]
theorem BZ(s:C2)(h:0<s.size):s.data.toList.headD 0=s[0]:=by
 have:=uM s 0 h;cases hl:s.data.toList with
 |nil=>rw[hl]at this;cases this
 |cons a t=>rw[hl]at this;simpa using this
theorem yk(s:C2)(h:s.size=0):s.data.toList=[]:=Yj h
theorem kC(s:C2)(_:0<s.size):s.data.toList≠[]:=fun e=>by have:s.data.toList.length=s.size:=rfl;rw[e]at this;simp at this;omega
theorem Q3(s:C2)(w:C3)(b:s.size=0):Cy 106 #[s] w (Cw false w):=by
 have a:=yk s b;have c:s.toList.isEmpty=true:=by rw[Yh,a];rfl
 have d:s.toList=[]:=by rw[Yh,a]
 exact Of
theorem MZ(s:C2)(w:C3)(b:20<s.size):Cy 106 #[s] w (Cw false w):=by
 have a:=kC s O;have d:s.toList.isEmpty=false:=by rw[Yh];simpa using a
 have c:decide ((20 :Int)<s.size)=true:=Uq
 exact Of
theorem Q5(c:Int)(b:Bool)(h:gK c=b)(w:C3):Cy 129 #[.int .i32 c] w (Cw b w):=h▸nD c w
theorem XQ(s:C2)(n:Nat)(h:xR s.data.toList=n)(w:C3):Cy 130 #[s] w (Cv (n:Int) w):=h▸Q2 s w
theorem XR(s:C2)(b:Bool)(h:xO s.data.toList=b)(w:C3):Cy 131 #[s] w (Cw b w):=h▸Q0 s w
theorem IB(s:C2)(w:C3)(m:0<s.size)(_:s.size<=20)(a:Bool)(n:Nat)(b:Bool)(c:gK (wrap32 (s[0].toNat:Int))=a)(d:xR s.data.toList=n)(f:xO s.data.toList=b):
 Cy 106 #[s] w (Cv ((!a)&&decide (n=s.size)&&!b) w):=by
 have g:=kC s m;have q:s.toList.isEmpty=false:=by rw[Yh];simpa using g
 have p:decide ((20 :Int)<s.size)=false:=Uq
 have i:=U c;have j:=U d;have k:=U f;clear g c d f;cases a
 all_goals
  go_enter func106,ntmps106;go_wp2_with (first|(go_at_call 129;(with_reducible refine(Q5 _ _ i.o _).mono ?_);rintro e w' ⟨rfl,rfl⟩)|(go_at_call 130;(with_reducible refine(XQ _ _ j.o _).mono ?_);rintro e _ ⟨rfl,l⟩)|(go_at_call 131;(with_reducible refine(XR _ _ k.o _).mono ?_);rintro e w' ⟨rfl,rfl⟩))
 all_goals go_ret
 all_goals first
  |(refine⟨zC ?_,l⟩;simp;intros;omega)
  |(refine⟨zC ?_,D1 _ _⟩;simp;done)
theorem Q6(s:C2)(w:C3):Cy 106 #[s] w (Cv (xC s.data.toList) w):=by
 have f:s.data.toList.length=s.size:=rfl;by_cases c:s.size=0
 .rw[yk s c,x7]
  exact(Q3 s w c).mono fun e w' ⟨a,k⟩=>⟨a,k▸D1 _ _⟩
 by_cases d:20<s.size
 .rw[rM _ O]
  exact(MZ s w d).mono fun e w' ⟨a,k⟩=>⟨a,k▸D1 _ _⟩
 .have b:0<s.size:=by omega
  rw[QX _ (kC s b) O,BZ s b,<-hV];refine IB s w b O _ _ _ ?_ rfl rfl;rw[IntWalk.wrap32_in _ (by have:=s[0].toNat_lt;omega)]
theorem yl{B:Nat}{a w:C3}(h:Below B a w)(n:Nat):Below B a (w.drewN n):=⟨h.os,h.tape,h.output,h.size,h.block⟩
theorem XS(s:C2)(b:Bool)(h:xC s.data.toList=b)(w:C3):Cy 106 #[s] w (Cv b w):=h▸Q6 s w
section
variable {P:Program}
end
theorem jX(c:Int)(b:Bool)(h:ul c=b)(w:C3):Cy 47 #[.int .u8 c] w (Cw b w):=h▸DW c w
theorem nE(c:Int)(b:Bool)(h:gK c=b)(w:C3):Cy 48 #[.int .u8 c] w (Cw b w):=h▸IA c w
theorem xS(s:C2)(b:Bool)(h:xO s.data.toList=b)(w:C3):Cy 49 #[s] w (Cw b w):=h▸MY s w
theorem DX{p:UInt8->Bool}{s:C2}(c:∀(j:Nat) b,j<s.size->s.data.toList[j]?=some b->p b=true):s.data.toList.all p=true:=
 List.all_eq_true.2 fun b d=>by
  obtain⟨j,a⟩:=List.mem_iff_getElem?.1 d;exact c j b (by have:=(List.getElem?_eq_some_iff.1 a).1;rwa [<-Ya]at this) a
theorem DY{p:UInt8->Bool}{s:C2}{k:Nat}(c:k<s.size)(a:p s[k]=false):s.data.toList.all p=false:=by
 rw[Ci];intro b;rw[List.all_eq_true.1 b s[k] (List.mem_iff_getElem?.2 ⟨k,uM s k c⟩)]at a;cases a
theorem y1{p:UInt8->Bool}{s:C2}{c:Nat}(g:c<s.size)(d:∀(j:Nat) b,j<c->s.data.toList[j]?=some b->p b=true)(f:p s[c]=true):
 ∀(j:Nat) b,j<c+1->s.data.toList[j]?=some b->p b=true:=by
 intro j b _ a;by_cases e:j=c
 .subst e
  rw[uM s j g]at a;injection a with a;exact a▸f
 .exact d j b O a
theorem M0(s:C2)(w:C3)(b:s.size=0):Cy 50 #[s] w (Cw false w):=by
 have a:=yk s b;have c:s.toList.isEmpty=true:=by rw[Yh,a];rfl
 have d:s.toList=[]:=by rw[Yh,a]
 clear a b;go_enter func50,ntmps50;go_wp2;go_ret;exact⟨rfl,rfl⟩
theorem IC(s:C2)(w:C3)(b:20<s.size):Cy 50 #[s] w (Cw false w):=by
 have a:=kC s O;have d:s.toList.isEmpty=false:=by rw[Yh];simpa using a
 have c:decide ((20 :Int)<s.size)=true:=Uq
 clear a b;go_enter func50,ntmps50;go_wp2;go_ret;exact⟨rfl,rfl⟩
theorem rQ(s:C2)(w:C3)(k:0<s.size)(_:s.size<=20)(a b:Bool)(c:ul (s[0].toNat:Int)=a)(d:xO s.data.toList=b)(j:a=false\/b=true):
 Cy 50 #[s] w (Cw false w):=by
 have f:=kC s k;have m:s.toList.isEmpty=false:=by rw[Yh];simpa using f
 have l:decide ((20 :Int)<s.size)=false:=Uq
 have g:=U c;have i:=U d;clear f c d;cases a<;>cases b<;>simp at j
 all_goals
  go_enter func50,ntmps50;go_wp2_with (first|(go_at_call 47;(with_reducible refine(jX _ _ g.o _).mono ?_);rintro e w' ⟨rfl,rfl⟩)|(go_at_call 49;(with_reducible refine(xS _ _ i.o _).mono ?_);rintro e w' ⟨rfl,rfl⟩));go_ret;exact⟨rfl,rfl⟩
theorem ID(s:C2)(w:C3)(B:0<s.size)(_:s.size<=20)(n:ul (s[0].toNat:Int)=true)(p:xO s.data.toList=false)(b:Bool)(r:s.data.toList.all q9=b):
 Cy 50 #[s] w (Cw b w):=by
 have u:=kC s B;have D:s.toList.isEmpty=false:=by rw[Yh];simpa using u
 have C:decide ((20 :Int)<s.size)=false:=Uq
 have v:=U n;have x:=U p;have f:=U r;clear u n p r;go_enter func50,ntmps50;go_wp2_with (first|(go_at_call 47;(with_reducible refine(jX _ _ v.o _).mono ?_);rintro e w' ⟨rfl,rfl⟩)|(go_at_call 49;(with_reducible refine(xS _ _ x.o _).mono ?_);rintro e w' ⟨rfl,rfl⟩))
 go_loop [3] (fun i=>∃k:Nat,k<=s.size/\i=.int .i64 k/\∀(j:Nat) b,j<k->s.data.toList[j]?=some b->q9 b=true) (fun i=>s.size-(intOf i).toNat)
 case atStart=>exact⟨0,Dw _,rfl,fun j b A=>absurd A O⟩
 case round=>
  obtain⟨k,_,rfl,q⟩:=hrel;have d:=U q;clear q;by_cases t:k<s.size
  .obtain⟨l,a⟩:=Cz (ul (s[k].toNat:Int))
   obtain⟨m,c⟩:=Cz (gK (s[k].toNat:Int));have g:Dk (q9 s[k]=(l || m)):=by unfold Dk q9;rw[<-a,<-c,hU,hV]
   have y:=U a;have z:=U c;clear a c;cases l<;>cases m
   all_goals
    go_wp2_with (first|(go_at_call 47;(with_reducible refine(jX _ _ y.o _).mono ?_);rintro e w' ⟨rfl,rfl⟩)|(go_at_call 48;(with_reducible refine(nE _ _ z.o _).mono ?_);rintro e w' ⟨rfl,rfl⟩))
   .go_ret
    exact⟨zC ((DY t g.o).symm.trans f.o),rfl⟩
   all_goals
    go_round
    case rel=>exact⟨k+1,O,by go_num,y1 t d.o g.o⟩
    case measure=>simp[intOf];omega
  .have e:k=s.size:=by omega
   subst e;go_wp2;go_ret;exact⟨zC ((DX d.o).symm.trans f.o),rfl⟩
theorem M1(s:C2)(w:C3):Cy 50 #[s] w (Cw (xC s.data.toList) w):=by
 by_cases c:s.size=0
 .rw[yk s c,x7]
  exact M0 s w c
 by_cases d:20<s.size
 .rw[rM _ (by rw[<-Ya];exact d)]
  exact IC s w d
 .have a:0<s.size:=by omega
  have i:xC s.data.toList=(ul (s[0].toNat:Int)&&s.data.toList.all q9&&!xO s.data.toList):=by
   unfold xC;rw[BZ s a,<-hU];have f:s.data.toList.isEmpty=false:=by simpa using kC s a
   have g:s.data.toList.length<=20:=by rw[<-Ya];omega
   rw[f,decide_eq_true g];rfl
  rw[i];cases h1:ul (s[0].toNat:Int)with
  |false=>exact rQ s w a O _ _ h1 rfl (.inl rfl)
  |true=>
    cases h2:xO s.data.toList with
    |true=>exact(rQ s w a O _ _ h1 h2 (.inr rfl)).mono fun e w' ⟨b,k⟩=>⟨by simp[b],k⟩
    |false=>exact(ID s w a O h1 h2 _ rfl).mono fun e w' ⟨b,k⟩=>⟨by simp[b],k⟩
theorem rR(s:C2)(b:Bool)(h:xC s.data.toList=b)(w:C3):Cy 50 #[s] w (Cw b w):=h▸M1 s w
theorem hY{s:C2}{k:Nat}(h:k<s.size):s.data.toList.take (k+1)=s.data.toList.take k++[s[k]]:=by
 rw[Yr,uM s k h];rfl
theorem lS(l:List UInt8)(k:Nat):kI 0 (l.take k)<=kI 0 l:=by
 have e:kI 0 l=kI (kI 0 (l.take k)) (l.drop k):=by rw[<-DV,Ct]
 rw[e];exact XP _ _
theorem fF(s:C2)(k:Nat)(a:k<s.size)(c:Int)(b:(s[k].toNat:Int)=c)(w:C3):(Instr.index 9 (.string s) (.int .i64 k)).run Tryz.prog w=.ok (.int .u8 c) w:=by
 subst b;have d:(0 :Int)<=(k:Int):=O
 simp[Instr.index,run_underlying underlying9,asIntOf,go_sem,a]
theorem oX(s:C2)(a:0<s.size)(c:Int)(b:(s[0].toNat:Int)=c)(w:C3):(Instr.index 9 (.string s) (.int .i64 0)).run Tryz.prog w=.ok (.int .u8 c) w:=fF s 0 a c b w
def XT(l:List UInt8)(w:C3)(e:Ending)(w':C3):Prop:=∃r,e=.returned (r:Int)/\decide (0<=r)=xQ l/\w=w'
theorem Q7{s:C2}{k:Nat}(a:k<s.size)(b:s.data.toList.all kK=true):48<=s[k].toNat/\s[k].toNat<=57:=by
 have:=List.all_eq_true.1 b s[k] (List.mem_iff_getElem?.2 ⟨k,uM s k a⟩);simpa[kK]using this
theorem y2(s:C2)(k m:Nat)(a:k<s.size)(e:m=kI 0 (s.data.toList.take k))(c:Int)(_:(s[k].toNat:Int)=c)(_:48<=c)(_:(9223372036854775807-(c-48)) / 10<(m:Int)):xQ s.data.toList=false:=by
 have b:=lS s.data.toList (k+1);rw[hY a,uk,<-e]at b;have d:¬kI 0 s.data.toList<9223372036854775808:=O
 unfold xQ;rw[decide_eq_false d,Bool.and_false]
theorem DZ(s:C2)(d:0<s.size)(f:s.data.toList.all kK=true)(i:kI 0 s.data.toList<9223372036854775808):xQ s.data.toList=(decide (s.size=1) || decide (s[0].toNat≠48)):=by
 unfold xQ;have c:s.data.toList.isEmpty=false:=by simpa using kC s d
 rw[f,decide_eq_true i,c];have g:=BZ s d;have j:s.size=s.data.toList.length:=rfl;rw[<-g,j];generalize s.data.toList=l at *;cases l with
 |nil=>simp at c
 |cons a t=>
   simp only[Cn,Dp];rw[Yg];cases t with
   |nil=>
     simp;by_cases e:a=48
     .exact .inl e
     .exact .inr e
   |cons b r=>
     simp[<-UInt8.toNat_inj]
     all_goals exact decide_eq_true_iff.symm
theorem IE(s:C2)(w:C3)(g:0<s.size)(_:s.size<=281474976710656)(q:s.data.toList.all kK=true):
 Cy 57 #[s] w (XT s.data.toList w):=by
 have t:=kC s g;have F:s.toList.isEmpty=false:=by rw[Yh];simpa using t
 have l:=U q;clear t q;go_enter func57,ntmps57;go_wp2
 go_loop [3,4,5] (fun n i _=>∃(k m:Nat),k<=s.size/\i=.int .i64 k/\n=.int .i64 m/\m=kI 0 (s.data.toList.take k)/\m<9223372036854775808) (fun _ i _=>s.size-(intOf i).toNat)
 case atStart=>exact⟨0,0,Dw _,rfl,rfl,by rw[Yu,uj],O⟩
 case round=>
  obtain⟨k,m,_,rfl,rfl,r,x⟩:=hrel;have d:=U r;clear r;by_cases b:k<s.size
  .obtain⟨c,a⟩:∃c:Int,(s[k].toNat:Int)=c:=⟨_,rfl⟩
   have z:=fF s k b c a;have j:=U a;have y:=Q7 b l.o;have v:48<=c:=O
   have E:c<=57:=O
   clear a y;by_cases B:(9223372036854775807-(c-48)) / 10<(m:Int)
   .go_wp2
    go_ret;exact⟨-1,rfl,by rw[y2 s k m b d.o c j.o v B];rfl,rfl⟩
   .go_wp2
    have C:=j.o;have A:((m*10+(s[k].toNat-48):Nat):Int)=(m:Int)*10+(c-48):=O
    go_round
    case rel=>exact⟨k+1,m*10+(s[k].toNat-48),O,by go_num,by rw[A],by rw[hY b,uk,<-d.o],O⟩
    case measure=>simp[intOf];omega
  .have e:k=s.size:=by omega
   subst e
   have u:Dk (m=kI 0 s.data.toList):=by
    unfold Dk;rw[d.o,D9 (by rw[<-Ya];exact Dy _)]
   obtain⟨c,a⟩:∃c:Int,(s[0].toNat:Int)=c:=⟨_,rfl⟩
   have z:=oX s g c a
   have f:Dk (xQ s.data.toList=(decide (s.size=1) || decide (c≠48))):=by
    unfold Dk;rw[DZ s g l.o (by rw[<-u.o];exact x)];congr 1;rw[Yg];simp;omega
   clear a;by_cases D:1<s.size
   .by_cases p:c=48
    .subst p
     go_wp2;go_ret;refine⟨-1,rfl,?_,rfl⟩;rw[f.o,decide_eq_false (show ¬s.size=1 by omega)];rfl
    .go_wp2
     go_ret;refine⟨m,rfl,?_,rfl⟩;rw[f.o,decide_eq_true p,Bool.or_true];simp
   .go_wp2
    go_ret;refine⟨m,rfl,?_,rfl⟩;rw[f.o,decide_eq_true (show s.size=1 by omega),Bool.true_or];simp
theorem EB{s:C2}(h:s.data.toList.all kK=false):xQ s.data.toList=false:=by
 unfold xQ;rw[h];simp
theorem oY(s:C2)(w:C3)(x:0<s.size)(y:s.size<=281474976710656)(b:Bool)(m:xQ s.data.toList=b):
 Cy 51 #[s] w (Cw b w):=by
 have d:=U m;clear m;go_enter func51,ntmps51;go_wp2
 go_loop [3] (fun i=>∃k:Nat,k<=s.size/\i=.int .i64 k/\∀(j:Nat) b,j<k->s.data.toList[j]?=some b->kK b=true) (fun i=>s.size-(intOf i).toNat)
 case atStart=>exact⟨0,Dw _,rfl,fun j b v=>absurd v O⟩
 case round=>
  obtain⟨k,_,rfl,l⟩:=hrel;have c:=U l;clear l;by_cases n:k<s.size
  .obtain⟨g,a⟩:=Cz (gK (s[k].toNat:Int))
   have f:Dk (kK s[k]=g):=by unfold Dk;rw[<-a,hV]
   have q:=U a;clear a;cases g
   all_goals
    go_wp2_with (go_at_call 48;(with_reducible refine(nE _ _ q.o _).mono ?_);rintro e w' ⟨rfl,rfl⟩)
   .go_ret
    exact⟨zC ((EB (DY n f.o)).symm.trans d.o),rfl⟩
   .go_round
    case rel=>exact⟨k+1,O,by go_num,y1 n c.o f.o⟩
    case measure=>simp[intOf];omega
  .have e:k=s.size:=by omega
   subst e;have t:=U (DX c.o);go_wp2_with (go_at_call 57;(with_reducible refine(IE _ _ x y t.o).mono ?_);rintro e w' ⟨r,rfl,p,rfl⟩;have u:=U p;clear p);go_ret;exact⟨zC (u.o.trans d.o),rfl⟩
end Go.Proofs.YthcmenajdcbnnaaGreatDoor
namespace Go.Proofs.YthcmenajdcbnnaaGreatDoor
open Tryz
open Go.RowKit (wrap64 wrap32)
theorem ub(z:Int):(((BitVec.ofInt 64 z).toNat:Nat):Int)=z % 18446744073709551616:=by
 rw[BitVec.toNat_ofInt];have:(0 :Int)<=z % 18446744073709551616:=O
 show(((z % 18446744073709551616).toNat:Nat):Int)=_;omega
theorem B0(z:Int)(j:Nat)(d:j<=63):bits .and .u64 z ((2 ^ j-1 :Nat):Int)=z % (2 ^ j:Nat):=by
 have m:2 ^ j<=2 ^ 63:=Nat.pow_le_pow_right Up d;have g:1<=2 ^ j:=Nat.one_le_two_pow;have f:=ub z;show IntKind.u64.wrap ((BitVec.ofInt 64 z &&& BitVec.ofInt 64 ((2 ^ j-1 :Nat):Int)).toNat:Nat)=_;rw[BitVec.toNat_and]
 have e:(BitVec.ofInt 64 ((2 ^ j-1 :Nat):Int)).toNat=2 ^ j-1:=by
  have:=ub ((2 ^ j-1 :Nat):Int);have i:((2 ^ j-1 :Nat):Int) % 18446744073709551616=((2 ^ j-1 :Nat):Int):=Int.emod_eq_of_lt O O;omega
 rw[e,Nat.and_two_pow_sub_one_eq_mod]
 have a:(((2 ^ j:Nat):Int)) ∣ 18446744073709551616:=by
  have:(2 ^ j:Nat) ∣ 18446744073709551616:=(Nat.pow_dvd_pow 2 (by omega:j<=64):(2 ^ j:Nat) ∣ 2 ^ 64)
  exact Int.natCast_dvd_natCast.2 this
 have c:(((BitVec.ofInt 64 z).toNat % 2 ^ j:Nat):Int)=z % (2 ^ j:Nat):=by
  rw[Int.natCast_emod,f,Int.emod_emod_of_dvd _ a]
 rw[c];have k:=Int.emod_nonneg z (b:=((2 ^ j:Nat):Int)) O;have l:=Int.emod_lt_of_pos z (b:=((2 ^ j:Nat):Int)) O;rw[IntKind.wrap_u64];omega
theorem M2(b:Int):bits .and .u64 b 63=b % 64:=B0 b 6 Up
theorem XU(a:Int)(b:(Lit.int .i64 a).wf=true):bits .xor .i64 (-1) a= -1-a:=by
 have d:=bounds_i64 b;have c:=ub a;show IntKind.i64.wrap ((BitVec.ofInt 64 (-1) ^^^ BitVec.ofInt 64 a).toNat:Nat)=_
 have e:BitVec.ofInt 64 (-1) ^^^ BitVec.ofInt 64 a= ~~~ (BitVec.ofInt 64 a):=by
  have:(BitVec.ofInt 64 (-1))=BitVec.allOnes 64:=Up
  rw[this,BitVec.allOnes_xor]
 rw[e,BitVec.toNat_not,IntKind.wrap_i64];have:=(BitVec.ofInt 64 a).isLt;omega
def EC(op a:Int):Int:=
 if op=20 then wrap64 (-a)else if op=21 then -1-a else if op=22 then(if a=0 then 1 else 0)else if op=23 then IntKind.i8.wrap a else if op=24 then IntKind.i16.wrap a
 else if op=25 then wrap32 a else if op=26 then a % 256 else if op=27 then a % 65536 else if op=28 then a % 4294967296 else 0
theorem hZ{n:Int}(_: -9223372036854775808<=n/\n<=9223372036854775807):wrap64 n=n:=by unfold wrap64;omega
theorem zam(a:Int): -128<=IntKind.i8.wrap a/\IntKind.i8.wrap a<=127:=by
 exact Oe
theorem Q8(a:Int): -32768<=IntKind.i16.wrap a/\IntKind.i16.wrap a<=32767:=by
 exact Oe
theorem za7(a:Int):IntKind.u16.wrap a=a % 65536:=by
 simp only[IntKind.wrap,IntKind.bits,IntKind.signed];simp
theorem zdx(a:Int):wrap64 (IntKind.i8.wrap a)=IntKind.i8.wrap a:=hZ (by have:=zam a;omega)
theorem zco(a:Int):wrap64 (IntKind.i16.wrap a)=IntKind.i16.wrap a:=hZ (by have:=Q8 a;omega)
theorem zcp(a:Int):wrap64 (IntKind.u16.wrap a)=a % 65536:=by rw[za7];exact hZ O
theorem zcq(a:Int):wrap64 (wrap32 a)=wrap32 a:=hZ Ga
def cnt(b:Int):Nat:=(b % 64).toNat
def XW(b:Bool):Int:=if b then 1 else 0
def pQ(op b:Int):Bool:=decide (1<=op)&&decide (op<=17)&&!((decide (op=4) || decide (op=5))&&decide (b=0))
def cmp(op a b:Int):Bool:=
 if op=12 then decide (a<b)else if op=13 then decide (a<=b)else if op=14 then decide (b<a)else if op=15 then decide (b<=a)else if op=16 then a == b else a != b
def sft(op a b:Int):Int:=
 if op=9 then wrap64 (a*2 ^ cnt b)else if op=10 then a / 2 ^ cnt b else wrap64 (a % 18446744073709551616 / 2 ^ cnt b)
def dvd(op a b:Int):Int:=if b=0 then 0 else if op=4 then wrap64 (a.tdiv b)else a.tmod b
def pR(op a b:Int):Int:=
 if op=1 then wrap64 (a+b)else if op=2 then wrap64 (a-b)else if op=3 then wrap64 (a*b)
 else if op=4\/op=5 then dvd op a b
 else if op=6 then bits .and .i64 a b else if op=7 then bits .or .i64 a b else if op=8 then bits .xor .i64 a b
 else if op=9\/op=10\/op=11 then sft op a b else if 12<=op/\op<=17 then XW (cmp op a b)else 0
theorem IF(b:Int):bits .and .u64 (IntKind.u64.wrap b) 63=b % 64:=by rw[M2,IntKind.wrap_u64];omega
theorem Q9(op a b:Int)(_:op<1\/17<op):pR op a b=0:=by
 unfold pR
 repeat(rw[Dl O])
theorem RA(op b:Int)(h:op<1\/17<op):pQ op b=false:=by
 unfold pQ;rcases h with h|h
 .have:decide (1<=op)=false:=by simpa using h
  simp[this]
 .have:decide (op<=17)=false:=by simpa using h
  simp[this]
def zcs:List (List UInt8):=[[],[43],[45],[42],[47],[37],[38],[124],[94],[60,60],[62,62],[62,62,62],[60],[60,61],[62],[62,61],[61,61],[33,61],[38,38],[124,124],[45],[126],[33],[105,56],[105,49,54],[105,51,50],[117,56],[117,49,54],[117,51,50]]
def zct:List Int:=[0,9,9,10,10,10,5,3,4,8,8,8,7,7,7,7,6,6,2,1,0,0,0,0,0,0,0,0,0]
def sgn(k:Nat):C2:=⟨(zcs.getD k []).toArray⟩
def lvl(k:Nat):Int:=zct.getD k 0
def xU(op:Int):C2:=if 1<=op/\op<=28 then sgn op.toNat else⟨#[]⟩
def kL(op:Int):Int:=if 1<=op/\op<=28 then lvl op.toNat else 0
end Go.Proofs.YthcmenajdcbnnaaGreatDoor
namespace Go.Proofs.YthcmenajdcbnnaaGreatDoor
open Go.RowKit Tryz
inductive Ex where
 |mk (kind op n:Int) (name:C2) (args:List Ex)
inductive St where
 |mk (kind type:Int) (name:C2) (args:List Ex) (thn els:List St)
structure Pa where
 name:C2
 type:Int
structure Fu where
 name:C2
 type:Int
 params:List Pa
 body:List St
structure Ar where
 name:C2
 size:Int
structure Pr where
 wa:List Ar
 funcs:List Fu
def Ex.kind:Ex->Int | .mk k _ _ _ _=>k
def Ex.op:Ex->Int | .mk _ o _ _ _=>o
def Ex.n:Ex->Int | .mk _ _ n _ _=>n
def Ex.name:Ex->C2 | .mk _ _ _ s _=>s
def Ex.args:Ex->List Ex | .mk _ _ _ _ l=>l
def uH(s:C2):Bool:=xC s.data.toList
def eB(s:C2):Bool:=decide (s.size=0)
def gM(t:Int):Bool:=decide (t=1\/t=2)
def zk(k op n:Int)(td:C2)(a:Nat):Bool:=
 if k=1 then decide (0<=n)&&decide (op=0)&&eB td&&decide (a=0)
 else if k=2 then decide (n=0\/n=1)&&decide (op=0)&&eB td&&decide (a=0)
 else if k=3 then uH td&&decide (op=0)&&decide (n=0)&&decide (a=0)
 else if k=4 then decide (20<=op/\op<=28)&&decide (n=0)&&eB td&&decide (a=1)
 else if k=5 then decide (0<kL op)&&decide (n=0)&&eB td&&decide (a=2)
 else if k=6 then uH td&&decide (op=0)&&decide (n=0)&&decide (a=1)
 else if k=7 then uH td&&decide (op=0)&&decide (n=0)&&decide (a<=8)
 else if k=8 then decide (op=0)&&decide (n=0)&&eB td&&decide (a=0)
 else false
mutual
def vA:Ex->Nat->Bool
 |.mk k op n td tc,m=>decide (1<=m)&&zk k op n td tc.length&&zr tc (m-1)
def zr:List Ex->Nat->Bool
 |[],_=>true
 |e::r,m=>vA e m&&zr r m
end
def uN(tc:List Ex):Bool:=match tc with|e::_=>decide (e.kind=7) | []=>false
def zj(k b:Int)(td:C2)(a d c:Nat)(e:Bool):Bool:=
 if k=1 then gM b&&uH td&&decide (a=1)&&decide (d=0)&&decide (c=0)
 else if k=2 then decide (b=0)&&uH td&&decide (a=1)&&decide (d=0)&&decide (c=0)
 else if k=3 then decide (b=0)&&uH td&&decide (a=2)&&decide (d=0)&&decide (c=0)
 else if k=4 then decide (b=0)&&eB td&&decide (a=1)
 else if k=5 then decide (b=0)&&eB td&&decide (a=1)&&decide (c=0)
 else if k=6\/k=7 then decide (b=0)&&eB td&&decide (a=0)&&decide (d=0)&&decide (c=0)
 else if k=8\/k=9 then decide (b=0)&&eB td&&decide (a=1)&&decide (d=0)&&decide (c=0)
 else if k=10 then decide (b=0)&&eB td&&decide (a=1)&&decide (d=0)&&decide (c=0)&&e
 else false
mutual
def fG:St->Nat->Bool
 |.mk k ty td tc tg th,m=>decide (1<=m)&&zj k ty td tc.length tg.length th.length (uN tc)&&zr tc 100&&d3 tg (m-1)&&d3 th (m-1)
def d3:List St->Nat->Bool
 |[],_=>true
 |s::r,m=>fG s m&&d3 r m
end
def ud(a:Ar):Bool:=uH a.name&&decide (1<=a.size/\a.size<=1000)
def vk(x:Pa):Bool:=uH x.name&&gM x.type
def xr(f:Fu):Bool:=uH f.name&&gM f.type&&decide (f.params.length<=8)&&f.params.all vk&&d3 f.body 100
def eK(p:Pr):Bool:=p.wa.all ud&&p.funcs.all xr
def wP(lev:Int)(c:Int×Int×List UInt8):List UInt8:=if c.1=5/\kL c.2.1<lev then 40::(c.2.2++[41])else c.2.2
def yM:List (List UInt8)->List UInt8
 |[]=>[]
 |[x]=>x
 |x::y::r=>x++44::32::yM (y::r)
def zao(b:Bool):List UInt8:=if b then[116,114,117,101]else[102,97,108,115,101]
def XX(t:Int):List UInt8:=if t=2 then[98,111,111,108]else[105,110,116]
def M3(cs:List (Int×Int×List UInt8))(i:Nat):Int×Int×List UInt8:=cs.getD i (0,0,[])
def RB(k op n:Int)(td:C2)(cs:List (Int×Int×List UInt8)):List UInt8:=
 if k=1 then Lib.itoa n
 else if k=2 then zao (decide (n=1))
 else if k=3 then td.data.toList
 else if k=4 then(if 23<=op then(xU op).data.toList++40::((M3 cs 0).2.2++[41])else(xU op).data.toList++wP 11 (M3 cs 0))
 else if k=5 then wP (kL op) (M3 cs 0)++32::((xU op).data.toList++32::wP (kL op+1) (M3 cs 1))
 else if k=6 then td.data.toList++91::((M3 cs 0).2.2++[93])
 else if k=7 then td.data.toList++40::(yM (cs.map (·.2.2))++[41])
 else[114,101,97,100,40,41]
mutual
def yx:Ex->List UInt8
 |.mk k op n td tc=>RB k op n td (gE tc)
def gE:List Ex->List (Int×Int×List UInt8)
 |[]=>[]
 |e::r=>(e.kind,e.op,yx e)::gE r
end
def opT(lev:Int)(e:Ex):List UInt8:=wP lev (e.kind,e.op,yx e)
def B1(n:Nat):List UInt8:=List.replicate n 9
def iX(tc:List Ex)(i:Nat):List UInt8:=(M3 (gE tc) i).2.2
def yN(k a:Int)(td:C2)(tc:List Ex):List UInt8:=
 if k=1 then XX a++32::(td.data.toList++32::61::32::(iX tc 0++[59]))
 else if k=2 then td.data.toList++32::61::32::(iX tc 0++[59])
 else if k=3 then td.data.toList++91::(iX tc 0++93::32::61::32::(iX tc 1++[59]))
 else if k=4 then 105::102::32::40::(iX tc 0++[41,32,123])
 else if k=5 then 119::104::105::108::101::32::40::(iX tc 0++[41,32,123])
 else if k=6 then[98,114,101,97,107,59]
 else if k=7 then[99,111,110,116,105,110,117,101,59]
 else if k=8 then 114::101::116::117::114::110::32::(iX tc 0++[59])
 else if k=9 then 112::114::105::110::116::40::(iX tc 0++[41,59])
 else iX tc 0++[59]
mutual
def QT:St->Nat->List UInt8
 |.mk k ty td tc tg th,t=>
   B1 t++(yN k ty td tc++10 ::
    (if k=4 then xV tg (t+1)++((if th.length=0 then[]else B1 t++([125,32,101,108,115,101,32,123]++10::xV th (t+1)))++(B1 t++[125,10]))
     else if k=5 then xV tg (t+1)++(B1 t++[125,10])else[]))
def xV:List St->Nat->List UInt8
 |[],_=>[]
 |s::r,t=>QT s t++xV r t
end
def arT(a:Ar):List UInt8:=[105,110,116,32]++(a.name.data.toList++91::(Lib.itoa a.size++[93,59,10]))
def paT(x:Pa):List UInt8:=XX x.type++32::x.name.data.toList
def XY(f:Fu):List UInt8:=XX f.type++32::(f.name.data.toList++40::(yM (f.params.map paT)++[41,32,123,10]++(xV f.body 1++[125,10])))
def KZ(p:Pr):List UInt8:=(p.wa.map arT).flatten++(p.funcs.map XY).flatten
theorem ju(k op n:Int)(td:C2)(tc:List Ex)(m:Nat):vA (.mk k op n td tc) m=(decide (1<=m)&&zk k op n td tc.length&&zr tc (m-1)):=by rw[vA]
theorem um(m:Nat):zr [] m=true:=by rw[zr]
theorem qr(e:Ex)(r:List Ex)(m:Nat):zr (e::r) m=(vA e m&&zr r m):=by rw[zr]
theorem jK{l:List Ex}{m:Nat}(c:zr l m=true){i:Nat}{e:Ex}(b:l[i]?=some e):vA e m=true:=by
 induction l generalizing i with
 |nil=>simp at b
 |cons a r d=>
   rw[qr,Dv]at c;exact Od
theorem M4(a b:List Ex)(m:Nat):zr (a++b) m=(zr a m&&zr b m):=by
 induction a with
 |nil=>simp[um]
 |cons e r c=>rw[Ys,qr,qr,c,Bool.and_assoc]
theorem j7{l:List Ex}{m i:Nat}{e:Ex}(a:l[i]?=some e):zr (l.take (i+1)) m=(zr (l.take i) m&&vA e m):=by
 rw[Yr,a];simp only[Option.toList_some];rw[M4,qr,um,Bool.and_true]
theorem vQ{l:List Ex}{m i:Nat}{e:Ex}(c:l[i]?=some e)(a:vA e m=false):zr l m=false:=by
 rw[Ci];intro b;rw[jK b c]at a;cases a
theorem jW(k a:Int)(td:C2)(tc:List Ex)(tg th:List St)(m:Nat):fG (.mk k a td tc tg th) m=(decide (1<=m)&&zj k a td tc.length tg.length th.length (uN tc)&&zr tc 100&&d3 tg (m-1)&&d3 th (m-1)):=by rw[fG]
theorem uo(m:Nat):d3 [] m=true:=by rw[d3]
theorem ji(e:St)(r:List St)(m:Nat):d3 (e::r) m=(fG e m&&d3 r m):=by rw[d3]
theorem rS{l:List St}{m:Nat}(c:d3 l m=true){i:Nat}{e:St}(b:l[i]?=some e):fG e m=true:=by
 induction l generalizing i with
 |nil=>simp at b
 |cons a r d=>
   rw[ji,Dv]at c;exact Od
theorem M5(a b:List St)(m:Nat):d3 (a++b) m=(d3 a m&&d3 b m):=by
 induction a with
 |nil=>simp[uo]
 |cons e r c=>rw[Ys,ji,ji,c,Bool.and_assoc]
theorem kf{l:List St}{m i:Nat}{e:St}(a:l[i]?=some e):d3 (l.take (i+1)) m=(d3 (l.take i) m&&fG e m):=by
 rw[Yr,a];simp only[Option.toList_some];rw[M5,ji,uo,Bool.and_true]
theorem zg{l:List St}{m i:Nat}{e:St}(c:l[i]?=some e)(a:fG e m=false):d3 l m=false:=by
 rw[Ci];intro b;rw[rS b c]at a;cases a
theorem nF(k op n:Int)(td:C2)(tc:List Ex):yx (.mk k op n td tc)=RB k op n td (gE tc):=by rw[yx]
theorem gN(l:List Ex):gE l=l.map fun e=>(e.kind,e.op,yx e):=by
 induction l with
 |nil=>rw[gE];rfl
 |cons e r a=>rw[gE,a];rfl
theorem za8{l:List Ex}{i:Nat}{e:Ex}(h:l[i]?=some e):M3 (gE l) i=(e.kind,e.op,yx e):=by
 unfold M3;rw[gN,Yk,Yl,h];rfl
theorem K0{l:List Ex}{i:Nat}{e:Ex}(h:l[i]?=some e):iX l i=yx e:=by unfold iX;rw[za8 h]
theorem rT(l:List (List UInt8))(x:List UInt8):yM (l++[x])=yM l++((if l.length=0 then[]else[44,32])++x):=by
 induction l with
 |nil=>simp[yM]
 |cons a r c=>
   cases r with
   |nil=>simp[yM]
   |cons b t=>
     have e:(a::b::t)++[x]=a::b::(t++[x]):=rfl;rw[e,yM,yM]
     have d:yM (b::(t++[x]))=yM (b::t)++([44,32]++x):=by
      have:=c;simpa using this
     rw[d];simp
theorem IG(k a:Int)(td:C2)(tc:List Ex)(tg th:List St)(t:Nat):QT (.mk k a td tc tg th) t=
 B1 t++(yN k a td tc++10 ::
  (if k=4 then xV tg (t+1)++((if th.length=0 then[]else B1 t++([125,32,101,108,115,101,32,123]++10::xV th (t+1)))++(B1 t++[125,10]))
   else if k=5 then xV tg (t+1)++(B1 t++[125,10])else[])):=by rw[QT]
theorem rU(t:Nat):xV [] t=[]:=by rw[xV]
theorem nG(s:St)(r:List St)(t:Nat):xV (s::r) t=QT s t++xV r t:=by rw[xV]
theorem RC(a b:List St)(t:Nat):xV (a++b) t=xV a t++xV b t:=by
 induction a with
 |nil=>simp[rU]
 |cons s r c=>rw[Ys,nG,nG,c,D7]
def Tab(w:C3):Prop:=∀k:Nat,k<=28->w.cell? (0,k*2)=some (.string (sgn k))/\w.cell? (0,k*2+1)=some (.int .i64 (lvl k))
theorem Tab.size{w:C3}(h:Tab w):0<w.heap.size:=block_lt_of_cell (h 0 O).1
theorem RD(k:Nat)(_:1<=k)(b:k<=28)(w:C3)(a:Tab w):
 Cy 167 #[((k:Int):Int)] w (Cv (.agg #[.string (sgn k),(lvl k:Int)]) w):=by
 have c:=a.size;obtain⟨_,_⟩:=a k b;clear a;go_enter func167,ntmps167;go_wp2;exact bodyPost_ret (v:=.agg #[.string (sgn k),(lvl k:Int)]) (by simp[results,results167,go_sem]) rfl ⟨rfl,Zb.alloc Zr _⟩
theorem M6(op:Int)(h:op<1\/28<op)(w:C3):
 Cy 167 #[(op:Int)] w (Cv (.agg #[.string ⟨#[]⟩,(0:Int)]) w):=by
 rcases h with h|h
 all_goals
  go_enter func167,ntmps167;go_wp2
  all_goals exact bodyPost_ret (v:=.agg #[.string ⟨#[]⟩,(0:Int)]) (by simp[results,results167,go_sem]) rfl ⟨rfl,Zb.alloc Zr _⟩
theorem M7(op:Int)(w:C3)(d:Tab w):
 Cy 167 #[(op:Int)] w (Cv (.agg #[.string (xU op),(kL op:Int)]) w):=by
 by_cases a:1<=op/\op<=28
 .obtain⟨k,rfl⟩:=Int.eq_ofNat_of_zero_le (show 0<=op by omega)
  have b:xU (k:Int)=sgn k:=by unfold xU;rw[Dm a];rfl
  have c:kL (k:Int)=lvl k:=by unfold kL;rw[Dm a];rfl
  rw[b,c];exact RD k O O w d
 .have b:xU op=⟨#[]⟩:=by unfold xU;rw[Dl a]
  have c:kL op=0:=by unfold kL;rw[Dl a]
  rw[b,c];exact M6 op O w
theorem M8(op:Int)(w:C3)(b:Tab w):
 Cy 161 #[(op:Int)] w (Cv (kL op:Int) w):=by
 have c:∀(s:C2) (l:Int) (w:C3),(Instr.field 230 (.agg #[s,(l:Int)]) 1).run Tryz.prog w=.ok (.int .i64 l) w:=fun _ _ _=>by kernel_rfl
 go_enter func161,ntmps161;go_wp2_with (go_at_call 167;refine(M7 _ _ b).mono ?_;rintro e w' ⟨rfl,a⟩);go_ret;exact⟨rfl,a⟩
theorem M9(w:C3):Cy 41 #[] w fun e w'=>∃C:Array C4,(∀j:Nat,j<28->C[j]?=some (.string (sgn (j+1))))/\e=.returned (.slice (some ⟨w.heap.size,0,none⟩) 28 28)/\w'=w.alloc (.cells C 9):=by
 go_enter func41,ntmps41;go_wp2;go_ret;refine⟨_,?_,rfl,rfl⟩;intro j _;obtain rfl|rfl|rfl|rfl|rfl|rfl|rfl|rfl|rfl|rfl|rfl|rfl|rfl|rfl|rfl|rfl|rfl|rfl|rfl|rfl|rfl|rfl|rfl|rfl|rfl|rfl|rfl|rfl:j=0\/j=1\/j=2\/j=3\/j=4\/j=5\/j=6\/j=7\/j=8\/j=9\/j=10\/j=11\/j=12\/j=13\/j=14\/j=15\/j=16\/j=17\/j=18\/j=19\/j=20\/j=21\/j=22\/j=23\/j=24\/j=25\/j=26\/j=27:=O
 all_goals rfl
theorem RE(k:Nat)(b:k<28)(w:C3):Cy 21 #[(((k:Int)+1):Int)] w (Cv (.string (sgn (k+1))) w):=by
 go_enter func21,ntmps21;go_wp2_with (go_at_call 41;refine(M9 _).mono ?_;rintro e w' ⟨C,a,rfl,rfl⟩;have c:=a k b;clear a);go_ret;exact⟨rfl,Zb.alloc Zr _⟩
theorem NA(op:Int)(h:op<1\/28<op)(w:C3):Cy 21 #[(op:Int)] w (Cv (.string ⟨#[]⟩) w):=by
 rcases h with h|h
 all_goals
  go_enter func21,ntmps21;go_wp2
  all_goals go_ret
  all_goals exact⟨rfl,D1 _ _⟩
theorem NB(op:Int)(w:C3):Cy 21 #[(op:Int)] w (Cv (.string (xU op)) w):=by
 by_cases b:1<=op/\op<=28
 .obtain⟨k,_⟩:=Int.eq_ofNat_of_zero_le (show 0<=op-1 by omega)
  obtain rfl:op=(k:Int)+1:=O
  have a:xU ((k:Int)+1)=sgn (k+1):=by unfold xU;rw[Dm b];rfl
  rw[a];exact RE k O w
 .have a:xU op=⟨#[]⟩:=by unfold xU;rw[Dl b]
  rw[a];exact NA op O w
theorem NC(op:Int)(h:1<=op/\op<=19)(w:C3):Cy 105 #[(op:Int)] w (Cw (kL op:Int) w):=by
 obtain rfl|rfl|rfl|rfl|rfl|rfl|rfl|rfl|rfl|rfl|rfl|rfl|rfl|rfl|rfl|rfl|rfl|rfl|rfl:op=1\/op=2\/op=3\/op=4\/op=5\/op=6\/op=7\/op=8\/op=9\/op=10\/op=11\/op=12\/op=13\/op=14\/op=15\/op=16\/op=17\/op=18\/op=19:=O
 all_goals clear h
 all_goals
  go_enter func105,ntmps105;go_wp2;go_ret;exact⟨rfl,rfl⟩
theorem ND(op:Int)(a:op<1\/19<op):kL op=0:=by
 unfold kL;split
 .rename_i b
  obtain rfl|rfl|rfl|rfl|rfl|rfl|rfl|rfl|rfl:op=20\/op=21\/op=22\/op=23\/op=24\/op=25\/op=26\/op=27\/op=28:=O
  all_goals rfl
 .rfl
theorem IH(op:Int)(a:op<1\/19<op)(w:C3):Cy 105 #[(op:Int)] w (Cw (0:Int) w):=by
 have n1:(op == 1)=false:=Uq
 have n2:(op == 2)=false:=Uq
 have m:(op == 3)=false:=Uq
 have n:(op == 4)=false:=Uq
 have o:(op == 5)=false:=Uq
 have p:(op == 6)=false:=Uq
 have q:(op == 7)=false:=Uq
 have r:(op == 8)=false:=Uq
 have s:(op == 9)=false:=Uq
 have b:(op == 10)=false:=Uq
 have c:(op == 11)=false:=Uq
 have d:(op == 12)=false:=Uq
 have e:(op == 13)=false:=Uq
 have f:(op == 14)=false:=Uq
 have g:(op == 15)=false:=Uq
 have i:(op == 16)=false:=Uq
 have j:(op == 17)=false:=Uq
 have k:(op == 18)=false:=Uq
 have l:(op == 19)=false:=Uq
 clear a;go_enter func105,ntmps105;go_wp2;go_ret;exact⟨rfl,rfl⟩
theorem rV(op:Int)(w:C3):Cy 105 #[(op:Int)] w (Cw (kL op:Int) w):=by
 by_cases h:1<=op/\op<=19
 .exact NC op h w
 .rw[ND op O]
  exact IH op O w
