import Derived.Test.YthcmenajdcbnnaaGreatDoorAtZed
import Derived.Lib.AtoiAllCases
import Derived.Lib.SlTrimSet
import Derived.Lib.IndexLaws
import Derived.WalkKit
import Derived.OpenShut
import Derived.Lib.ItoaMem
set_option linter.unusedSimpArgs false
set_option linter.unusedVariables false
set_option maxRecDepth 100000
/- The tokens of a text as a plain function of its bytes (scan), and what of it the walks and the laws of the layer token ask: no Go, no program. -/
namespace Go.Proofs.YthcmenajdcbnnaaGreatDoor
open Lib (hid)
open Go.RowKit
theorem O0{p:Prop}(h:p:=by
 have:=kV ((2 ^ j-1 :Nat):Int);have i:((2 ^ j-1 :Nat):Int) % 18446744073709551616=((2 ^ j-1 :Nat):Int):=Int.emod_eq_of_lt I7 I7;omega):p:=h
theorem O1{p:Prop}(h:p:=by
 have:(2 ^ j:Nat) ∣ 18446744073709551616:=(Nat.pow_dvd_pow 2 (by omega:j<=64):(2 ^ j:Nat) ∣ 2 ^ 64)
 exact Int.natCast_dvd_natCast.2 this):p:=h
theorem O2{p:Prop}(h:p:=by
 simp only[IntKind.wrap,IntKind.bits,IntKind.signed];simp;split <;> omega):p:=h
structure Tok where
 kind:Int
 text:List UInt8
 line:Nat
def isLet(c:UInt8):Bool:=(65<=c.toNat && c.toNat<=90) || (97<=c.toNat && c.toNat<=122) || c.toNat == 95
def jv(c:UInt8):Bool:=48<=c.toNat && c.toNat<=57
def qO(c:UInt8):Bool:=isLet c || jv c
def xf(c:UInt8):Bool:=c.toNat == 32 || c.toNat == 9 || c.toNat == 13 || c.toNat == 10
def words:List (List UInt8):=
 [[105,110,116],[98,111,111,108],[105,102],[101,108,115,101],[119,104,105,108,101],[98,114,101,97,107],
  [99,111,110,116,105,110,117,101],[114,101,116,117,114,110],[112,114,105,110,116],[114,101,97,100],
  [116,114,117,101],[102,97,108,115,101],[105,56],[105,49,54],[105,51,50],[117,56],[117,49,54],[117,51,50]]
def xC(t:List UInt8):Bool:=words.contains t
def kQ(t:List UInt8):Bool:=(!t.isEmpty) && decide (t.length<=20) && isLet (t.headD 0) && t.all qO && !xC t
def jj(acc:Nat)(l:List UInt8):Nat:=l.foldl (fun a c=>a*10+(c.toNat-48)) acc
theorem uY(acc:Nat):jj acc []=acc:=by unfold jj;rw[List.foldl_nil]
theorem decV_cons(acc:Nat)(c:UInt8)(r:List UInt8):jj acc (c::r)=jj (acc*10+(c.toNat-48)) r:=by unfold jj;rw[List.foldl_cons]
theorem decV_app(a b:List UInt8)(acc:Nat):jj acc (a++b)=jj (jj acc a) b:=by unfold jj;rw[List.foldl_append]
theorem zAd(l:List UInt8)(acc:Nat)(c:UInt8):jj acc (l++[c])=jj acc l*10+(c.toNat-48):=by rw[decV_app,decV_cons,uY]
def kT(t:List UInt8):Bool:=(!t.isEmpty) && t.all jv && (t == [48] || t.headD 0 != 48) && decide (jj 0 t<9223372036854775808)
def xg(t:List UInt8):Option Int:=if xC t then some 2 else if kQ t then some 1 else if kT t then some 0 else none
def signs2:List (List UInt8):=[[61,61],[33,61],[60,61],[62,61],[60,60],[62,62],[38,38],[124,124]]
def signs1:List (List UInt8):=[[40],[41],[123],[125],[91],[93],[44],[59],[61],[60],[62],[43],[45],[42],[47],[37],[38],[124],[94],[126],[33]]
def uZ:List (List UInt8):=[62,62,62]::(signs2++signs1)
def xM(l:List UInt8):List UInt8:=(uZ.find? (fun t=>Lib.hasPrefix l t)).getD []
def one(l:List UInt8):Option (Int × List UInt8):=
 if l.takeWhile qO≠[]then(xg (l.takeWhile qO)).map fun k=>(k,l.takeWhile qO)
 else if xM l≠[]then some (2,xM l)else none
def zn:List UInt8->Nat->List Tok × Option Nat
 | [],line=>([⟨3,[],line⟩],none)
 | c::r,line=>
   if c.toNat == 10 then zn r (line+1)
   else if xf c then zn r line
   else if c.toNat == 47 && r.head? == some 47 then zn (r.dropWhile (fun d=>d.toNat != 10)) line
   else match one (c::r)with
    | none=>([],some line)
    | some (k,t)=>(⟨k,t,line⟩::(zn (r.drop (t.length-1)) line).1,(zn (r.drop (t.length-1)) line).2)
termination_by l=>l.length
decreasing_by
 all_goals simp only[List.length_cons,List.length_drop]
 all_goals first
  | omega
  | exact Nat.lt_succ_of_le (List.IsSuffix.length_le (List.dropWhile_suffix _))
def vI(c:Int):Bool:=decide ((65<=c/\c<=90)\/(97<=c/\c<=122)\/c=95)
def ua(c:Int):Bool:=decide (48<=c/\c<=57)
theorem zAe(c:UInt8):vI (c.toNat:Int)=isLet c:=by
 unfold vI isLet;rw[Bool.eq_iff_iff];simp;omega
theorem zAf(c:UInt8):ua (c.toNat:Int)=jv c:=by
 unfold ua jv;rw[Bool.eq_iff_iff];simp;omega
theorem letZ_high(c:Int)(a:128<=c):vI c=false:=by unfold vI;simp;omega
theorem digZ_high(c:Int)(a:128<=c):ua c=false:=by unfold ua;simp;omega
theorem isAln_low(c:UInt8)(a:qO c=true):c.toNat<128:=by
 simp[qO,isLet,jv]at a;omega
theorem isLet_not_dig(c:UInt8)(a:isLet c=true):jv c=false:=by
 simp[isLet,jv]at a ⊢;omega
theorem span_at(p:UInt8->Bool)(l:List UInt8)(k:Nat)(g:k<=l.length)(d:∀(j:Nat) b,j<k->l[j]? =some b->p b=true)(e:∀b,l[k]? =some b->p b=false):(l.takeWhile p)=l.take k:=by
 induction l generalizing k with
 | nil=>simp
 | cons a t h=>
   cases k with
   | zero=>
     have:=e a rfl;simp[List.takeWhile,this]
   | succ k=>
     have:=d 0 a I7 rfl;rw[List.takeWhile_cons_of_pos this,List.take_succ_cons,h k (by simpa using g) (fun j b i c=>d (j+1) b I7 Il) (fun b c=>e b Il)]
theorem span_len(p:UInt8->Bool)(l:List UInt8)(k:Nat)(d:k<=l.length)(a:∀(j:Nat) b,j<k->l[j]? =some b->p b=true)(c:∀b,l[k]? =some b->p b=false):(l.takeWhile p).length=k:=by
 rw[span_at p l k d a c,List.length_take];omega
def kU(l:List UInt8):Nat:=(l.takeWhile qO).length
theorem spanN_le(l:List UInt8):kU l<=l.length:=List.IsPrefix.length_le (List.takeWhile_prefix _)
theorem spanN_all(l:List UInt8):kU l=l.length↔l.all qO=true:=by
 unfold kU;constructor
 .intro a
  have:=List.IsPrefix.eq_of_length (List.takeWhile_prefix (l:=l) qO) a;rw[<-this];exact List.all_takeWhile
 .intro a
  exact span_len qO l l.length Zr (fun j b _ c=>List.all_eq_true.1 a b (List.mem_of_getElem? c)) (fun b c=>Q7)
theorem nameB_eq(l:List UInt8)(e:l≠[])(g:l.length<=20):kQ l=((!jv (l.headD 0)) && decide (kU l=l.length) && !xC l):=by
 cases l with
 | nil=>exact absurd rfl e
 | cons c r=>
   rw[Bool.eq_iff_iff];simp only[kQ,spanN_all,List.headD_cons,Bool.and_eq_true,decide_eq_true_eq];simp only[List.isEmpty_cons,Bool.not_false,g,true_and,List.all_cons,Bool.and_eq_true];constructor
   .rintro⟨⟨i,a,b⟩,d⟩
    exact⟨⟨by simp[isLet_not_dig c i],a,b⟩,d⟩
   .rintro⟨⟨h,a,b⟩,d⟩
    refine⟨⟨?_,a,b⟩,d⟩;simp[qO]at a;rcases a with a|a
    .exact a
    .simp[a]at h
theorem nameB_nil:kQ []=false:=rfl
theorem nameB_long(l:List UInt8)(a:20<l.length):kQ l=false:=by
 simp[kQ];omega
def nl(l:List UInt8):Nat:=l.countP (fun d=>d.toNat == 10)
def gapN(l:List UInt8):Nat:=if Lib.hasPrefix l [47,47]then(l.takeWhile (fun d=>d.toNat != 10)).length else(l.takeWhile xf).length
theorem dropWhile_eq(p:UInt8->Bool)(l:List UInt8):l.dropWhile p=l.drop (l.takeWhile p).length:=by
 have a:=List.takeWhile_append_dropWhile (p:=p) (l:=l)
 conv=>rhs;rw[<-a]
 rw[List.drop_append];simp
theorem nl_of_blk(c:UInt8)(a:c.toNat=10):xf c=true:=by simp[xf,a]
theorem ub:∀(l:List UInt8) (a:Nat),zn l a=zn (l.drop (l.takeWhile xf).length) (a+nl (l.take (l.takeWhile xf).length))
 | [],a=>by simp[nl]
 | c::r,a=>by
   by_cases d:xf c=true
   .rw[List.takeWhile_cons_of_pos d]
    simp only[List.length_cons,List.drop_succ_cons,List.take_succ_cons];rw[zn];by_cases b:c.toNat=10
    .simp only[b,beq_self_eq_true,if_true]
     rw[ub r (a+1)];congr 1;simp[nl,b];omega
    .have:(c.toNat == 10)=false:=by simpa using b
     simp only[this,d,if_true];rw[if_neg Ia,ub r a];congr 1;simp[nl,b]
   .rw[List.takeWhile_cons_of_neg d]
    simp[nl]
theorem yX{l:List UInt8}(c:Lib.hasPrefix l [47,47]=true):∃r,l=47::47::r:=by
 match l,c with
 | [],c=>simp[Lib.hasPrefix]at c
 | [a],c=>simp[Lib.hasPrefix]at c
 | a::b::r,c=>
   simp[Lib.hasPrefix]at c;exact⟨r,by rw[<-c.1,<-c.2]⟩
theorem nl_take(l:List UInt8):nl (l.take (l.takeWhile (fun d=>d.toNat != 10)).length)=0:=by
 have e:l.take (l.takeWhile (fun d=>d.toNat != 10)).length=l.takeWhile (fun d=>d.toNat != 10):=(List.prefix_iff_eq_take.1 (List.takeWhile_prefix _)).symm;rw[e];unfold nl;rw[List.countP_eq_zero];intro a b;have:=List.all_takeWhile (p:=fun d:UInt8=>d.toNat != 10) (l:=l);have:=List.all_eq_true.1 this a b;simpa using this
theorem scan_gap(l:List UInt8)(a:Nat):zn l a=zn (l.drop (gapN l)) (a+nl (l.take (gapN l))):=by
 unfold gapN;split
 .rename_i b
  obtain⟨r,rfl⟩:=yX b;rw[nl_take,<-dropWhile_eq]
  conv=>lhs;rw[zn]
  rfl
 .exact ub l a
theorem gap_zero{c:UInt8}{r:List UInt8}(a:gapN (c::r)=0):xf c=false/\(c.toNat == 47 && r.head? == some 47)=false:=by
 unfold gapN at a;split at a
 .rename_i g
  obtain⟨k,e⟩:=yX g;rw[e]at a;simp at a
 .rename_i g
  refine⟨?_,?_⟩
  .cases hb:xf c with
   | false=>rfl
   | true=>rw[List.takeWhile_cons_of_pos hb]at a;simp at a
  .rw[Bool.eq_false_iff]
   intro h;apply g;simp at h;obtain⟨i,d⟩:=h;have j:c=47:=UInt8.toNat_inj.1 i;cases r with
   | nil=>simp at d
   | cons b t=>
     simp at d;subst j d;rfl
theorem scan_step{c:UInt8}{r:List UInt8}(d:gapN (c::r)=0)(a:Nat):zn (c::r) a=match one (c::r)with
 | none=>([],some a)
 | some (k,t)=>(⟨k,t,a⟩::(zn (r.drop (t.length-1)) a).1,(zn (r.drop (t.length-1)) a).2):=by
 obtain⟨b,h⟩:=gap_zero d
 have g:(c.toNat == 10)=false:=by
  rw[Bool.eq_false_iff];intro e;rw[nl_of_blk c (by simpa using e)]at b;cases b
 rw[zn,if_neg Q8,if_neg (by simp[b]),if_neg (by rw[h];simp)]
theorem decV_ge(l:List UInt8):∀(acc:Nat),acc<=jj acc l:=by
 induction l with
 | nil=>intro acc;rw[uY];exact Nat.le_refl _
 | cons c r a=>
   intro acc;have b:=a (acc*10+(c.toNat-48));rw[decV_cons];omega
theorem find_first{α:Type}(p:α->Bool):∀(a:List α) (k:Nat) (t:α),a[k]? =some t->p t=true->(∀(j:Nat) u,j<k->a[j]? =some u->p u=false)->a.find? p=some t
 | [],k,t,h,_,_=>IQ
 | x::a,0,t,h,hp,_=>by
   simp at h;subst h;simp[List.find?,hp]
 | x::a,k+1,t,h,hp,hn=>by
   have b:=hn 0 x I7 rfl;rw[List.find?_cons_of_neg (by simp[b])];exact find_first p a k t IM hp (fun j u d c=>hn (j+1) u I7 Il)
theorem find_never{α:Type}(p:α->Bool)(a:List α)(c:∀(j:Nat) u,a[j]? =some u->p u=false):a.find? p=none:=by
 rw[List.find?_eq_none];intro x d;obtain⟨j,b⟩:=List.mem_iff_getElem?.1 d;simp[c j x b]
end Go.Proofs.YthcmenajdcbnnaaGreatDoor
namespace Go.Proofs.YthcmenajdcbnnaaGreatDoor
open Lib (hid)
open Go.RowKit (wrap64 wrap32)
theorem kV(z:Int):(((BitVec.ofInt 64 z).toNat:Nat):Int)=z % 18446744073709551616:=by
 rw[BitVec.toNat_ofInt];have:(0 :Int)<=z % 18446744073709551616:=I7
 show(((z % 18446744073709551616).toNat:Nat):Int)=_;omega
theorem i64_and_mask(z:Int)(j:Nat)(d:j<=63):bits .and .i64 z ((2 ^ j-1 :Nat):Int)=z % (2 ^ j:Nat):=by
 have m:2 ^ j<=2 ^ 63:=Nat.pow_le_pow_right I8 d;have h:1<=2 ^ j:=Nat.one_le_two_pow;have g:=kV z;show IntKind.i64.wrap ((BitVec.ofInt 64 z &&& BitVec.ofInt 64 ((2 ^ j-1 :Nat):Int)).toNat:Nat)=_;rw[BitVec.toNat_and]
 have e:(BitVec.ofInt 64 ((2 ^ j-1 :Nat):Int)).toNat=2 ^ j-1:=by
  exact O0
 rw[e,Nat.and_two_pow_sub_one_eq_mod]
 have a:(((2 ^ j:Nat):Int)) ∣ 18446744073709551616:=by
  exact O1
 have c:(((BitVec.ofInt 64 z).toNat % 2 ^ j:Nat):Int)=z % (2 ^ j:Nat):=by
  rw[Int.natCast_emod,g,Int.emod_emod_of_dvd _ a]
 rw[c];have k:=Int.emod_nonneg z (b:=((2 ^ j:Nat):Int)) I7;have l:=Int.emod_lt_of_pos z (b:=((2 ^ j:Nat):Int)) I7;rw[IntKind.wrap_i64];omega
theorem u64_and_mask(z:Int)(j:Nat)(d:j<=63):bits .and .u64 z ((2 ^ j-1 :Nat):Int)=z % (2 ^ j:Nat):=by
 have m:2 ^ j<=2 ^ 63:=Nat.pow_le_pow_right I8 d;have h:1<=2 ^ j:=Nat.one_le_two_pow;have g:=kV z;show IntKind.u64.wrap ((BitVec.ofInt 64 z &&& BitVec.ofInt 64 ((2 ^ j-1 :Nat):Int)).toNat:Nat)=_;rw[BitVec.toNat_and]
 have e:(BitVec.ofInt 64 ((2 ^ j-1 :Nat):Int)).toNat=2 ^ j-1:=by
  exact O0
 rw[e,Nat.and_two_pow_sub_one_eq_mod]
 have a:(((2 ^ j:Nat):Int)) ∣ 18446744073709551616:=by
  exact O1
 have c:(((BitVec.ofInt 64 z).toNat % 2 ^ j:Nat):Int)=z % (2 ^ j:Nat):=by
  rw[Int.natCast_emod,g,Int.emod_emod_of_dvd _ a]
 rw[c];have k:=Int.emod_nonneg z (b:=((2 ^ j:Nat):Int)) I7;have l:=Int.emod_lt_of_pos z (b:=((2 ^ j:Nat):Int)) I7;rw[IntKind.wrap_u64];omega
theorem i64_and63(b:Int):bits .and .i64 b 63=b % 64:=i64_and_mask b 6 I8
theorem u64_and63(b:Int):bits .and .u64 b 63=b % 64:=u64_and_mask b 6 I8
theorem i64_not(a:Int)(b:(Lit.int .i64 a).wf=true):bits .xor .i64 (-1) a= -1-a:=by
 have d:=bounds_i64 b;have c:=kV a;show IntKind.i64.wrap ((BitVec.ofInt 64 (-1) ^^^ BitVec.ofInt 64 a).toNat:Nat)=_
 have e:BitVec.ofInt 64 (-1) ^^^ BitVec.ofInt 64 a= ~~~ (BitVec.ofInt 64 a):=by
  have:(BitVec.ofInt 64 (-1))=BitVec.allOnes 64:=I8
  rw[this,BitVec.allOnes_xor]
 rw[e,BitVec.toNat_not,IntKind.wrap_i64];have:=(BitVec.ofInt 64 a).isLt;omega
def wOne(op a:Int):Int:=
 if op=20 then wrap64 (-a)else if op=21 then -1-a else if op=22 then(if a=0 then 1 else 0)else if op=23 then IntKind.i8.wrap a else if op=24 then IntKind.i16.wrap a
 else if op=25 then wrap32 a else if op=26 then a % 256 else if op=27 then a % 65536 else if op=28 then a % 4294967296 else 0
theorem zAg{n:Int}(a: -9223372036854775808<=n/\n<=9223372036854775807):wrap64 n=n:=by unfold wrap64;omega
theorem i8_bd(a:Int): -128<=IntKind.i8.wrap a/\IntKind.i8.wrap a<=127:=by
 exact O2
theorem i16_bd(a:Int): -32768<=IntKind.i16.wrap a/\IntKind.i16.wrap a<=32767:=by
 exact O2
theorem u16_eq(a:Int):IntKind.u16.wrap a=a % 65536:=by
 simp only[IntKind.wrap,IntKind.bits,IntKind.signed];simp
theorem w_i8(a:Int):wrap64 (IntKind.i8.wrap a)=IntKind.i8.wrap a:=zAg (by have:=i8_bd a;omega)
theorem w_i16(a:Int):wrap64 (IntKind.i16.wrap a)=IntKind.i16.wrap a:=zAg (by have:=i16_bd a;omega)
theorem w_u16(a:Int):wrap64 (IntKind.u16.wrap a)=a % 65536:=by rw[u16_eq];exact zAg I7
theorem w_i32(a:Int):wrap64 (wrap32 a)=wrap32 a:=zAg QO
def cnt(b:Int):Nat:=(b % 64).toNat
def flag(b:Bool):Int:=if b then 1 else 0
def qj(op b:Int):Bool:=decide (1<=op) && decide (op<=17) && !((decide (op=4) || decide (op=5)) && decide (b=0))
def cmp(op a b:Int):Bool:=
 if op=12 then decide (a<b)else if op=13 then decide (a<=b)else if op=14 then decide (b<a)else if op=15 then decide (b<=a)else if op=16 then a == b else a != b
def sft(op a b:Int):Int:=
 if op=9 then wrap64 (a*2 ^ cnt b)else if op=10 then a / 2 ^ cnt b else wrap64 (a % 18446744073709551616 / 2 ^ cnt b)
def dvd(op a b:Int):Int:=if b=0 then 0 else if op=4 then wrap64 (a.tdiv b)else a.tmod b
def qa(op a b:Int):Int:=
 if op=1 then wrap64 (a+b)else if op=2 then wrap64 (a-b)else if op=3 then wrap64 (a*b)
 else if op=4\/op=5 then dvd op a b
 else if op=6 then bits .and .i64 a b else if op=7 then bits .or .i64 a b else if op=8 then bits .xor .i64 a b
 else if op=9\/op=10\/op=11 then sft op a b else if 12<=op/\op<=17 then flag (cmp op a b)else 0
theorem u64_and63'(b:Int):bits .and .u64 (IntKind.u64.wrap b) 63=b % 64:=by rw[u64_and63,IntKind.wrap_u64];omega
theorem wTwo_out(op a b:Int)(c:op<1\/17<op):qa op a b=0:=by
 unfold qa
 repeat(rw[if_neg I7])
theorem wHas_out(op b:Int)(a:op<1\/17<op):qj op b=false:=by
 unfold qj;rcases a with a|a
 .have:decide (1<=op)=false:=by simpa using a
  simp[this]
 .have:decide (op<=17)=false:=by simpa using a
  simp[this]
def sgnL:List (List UInt8):=[[],[43],[45],[42],[47],[37],[38],[124],[94],[60,60],[62,62],[62,62,62],[60],[60,61],[62],[62,61],[61,61],[33,61],[38,38],[124,124],[45],[126],[33],[105,56],[105,49,54],[105,51,50],[117,56],[117,49,54],[117,51,50]]
def lvlL:List Int:=[0,9,9,10,10,10,5,3,4,8,8,8,7,7,7,7,6,6,2,1,0,0,0,0,0,0,0,0,0]
def sgn(k:Nat):ByteArray:=⟨(sgnL.getD k []).toArray⟩
def lvl(k:Nat):Int:=lvlL.getD k 0
def jh(op:Int):ByteArray:=if 1<=op/\op<=28 then sgn op.toNat else⟨#[]⟩
def jZ(op:Int):Int:=if 1<=op/\op<=28 then lvl op.toNat else 0
end Go.Proofs.YthcmenajdcbnnaaGreatDoor
namespace Go.Proofs.YthcmenajdcbnnaaGreatDoor
open Lib (hid)
open Go.RowKit
inductive Ex where
 | mk (kind op n:Int) (name:ByteArray) (args:List Ex)
inductive St where
 | mk (kind type:Int) (name:ByteArray) (args:List Ex) (thn els:List St)
structure Pa where
 name:ByteArray
 type:Int
structure Fu where
 name:ByteArray
 type:Int
 params:List Pa
 body:List St
structure Ar where
 name:ByteArray
 size:Int
structure Pr where
 arrays:List Ar
 funcs:List Fu
def Ex.kind:Ex->Int | .mk k _ _ _ _=>k
def Ex.op:Ex->Int | .mk _ o _ _ _=>o
def Ex.n:Ex->Int | .mk _ _ n _ _=>n
def Ex.name:Ex->ByteArray | .mk _ _ _ s _=>s
def Ex.args:Ex->List Ex | .mk _ _ _ _ l=>l
def vd(s:ByteArray):Bool:=kQ s.data.toList
def eB(s:ByteArray):Bool:=decide (s.size=0)
def ud(t:Int):Bool:=decide (t=1\/t=2)
def zj(k op n:Int)(name:ByteArray)(a:Nat):Bool:=
 if k=1 then decide (0<=n) && decide (op=0) && eB name && decide (a=0)
 else if k=2 then decide (n=0\/n=1) && decide (op=0) && eB name && decide (a=0)
 else if k=3 then vd name && decide (op=0) && decide (n=0) && decide (a=0)
 else if k=4 then decide (20<=op/\op<=28) && decide (n=0) && eB name && decide (a=1)
 else if k=5 then decide (0<jZ op) && decide (n=0) && eB name && decide (a=2)
 else if k=6 then vd name && decide (op=0) && decide (n=0) && decide (a=1)
 else if k=7 then vd name && decide (op=0) && decide (n=0) && decide (a<=8)
 else if k=8 then decide (op=0) && decide (n=0) && eB name && decide (a=0)
 else false
mutual
def vJ:Ex->Nat->Bool
 | .mk k op n name args,m=>decide (1<=m) && zj k op n name args.length && qC args (m-1)
def qC:List Ex->Nat->Bool
 | [],_=>true
 | e::r,m=>vJ e m && qC r m
end
def uL(args:List Ex):Bool:=match args with|e::_=>decide (e.kind=7) | []=>false
def zr(k b:Int)(name:ByteArray)(a d c:Nat)(e:Bool):Bool:=
 if k=1 then ud b && vd name && decide (a=1) && decide (d=0) && decide (c=0)
 else if k=2 then decide (b=0) && vd name && decide (a=1) && decide (d=0) && decide (c=0)
 else if k=3 then decide (b=0) && vd name && decide (a=2) && decide (d=0) && decide (c=0)
 else if k=4 then decide (b=0) && eB name && decide (a=1)
 else if k=5 then decide (b=0) && eB name && decide (a=1) && decide (c=0)
 else if k=6\/k=7 then decide (b=0) && eB name && decide (a=0) && decide (d=0) && decide (c=0)
 else if k=8\/k=9 then decide (b=0) && eB name && decide (a=1) && decide (d=0) && decide (c=0)
 else if k=10 then decide (b=0) && eB name && decide (a=1) && decide (d=0) && decide (c=0) && e
 else false
mutual
def stOK:St->Nat->Bool
 | .mk k ty name args thn els,m=>decide (1<=m) && zr k ty name args.length thn.length els.length (uL args) && qC args 100 && stsOK thn (m-1) && stsOK els (m-1)
def stsOK:List St->Nat->Bool
 | [],_=>true
 | s::r,m=>stOK s m && stsOK r m
end
def vC(a:Ar):Bool:=vd a.name && decide (1<=a.size/\a.size<=1000)
def vg(x:Pa):Bool:=vd x.name && ud x.type
def yF(f:Fu):Bool:=vd f.name && ud f.type && decide (f.params.length<=8) && f.params.all vg && stsOK f.body 100
def prOK(p:Pr):Bool:=p.arrays.all vC && p.funcs.all yF
def parT(lev:Int)(c:Int × Int × List UInt8):List UInt8:=if c.1=5/\jZ c.2.1<lev then 40::(c.2.2++[41])else c.2.2
def xN:List (List UInt8)->List UInt8
 | []=>[]
 | [x]=>x
 | x::y::r=>x++44::32::xN (y::r)
def boolT(b:Bool):List UInt8:=if b then[116,114,117,101]else[102,97,108,115,101]
def tyT(t:Int):List UInt8:=if t=2 then[98,111,111,108]else[105,110,116]
def kid(a:List (Int × Int × List UInt8))(i:Nat):Int × Int × List UInt8:=a.getD i (0,0,[])
def nodeT(k op n:Int)(name:ByteArray)(a:List (Int × Int × List UInt8)):List UInt8:=
 if k=1 then Lib.itoa n
 else if k=2 then boolT (decide (n=1))
 else if k=3 then name.data.toList
 else if k=4 then(if 23<=op then(jh op).data.toList++40::((kid a 0).2.2++[41])else(jh op).data.toList++parT 11 (kid a 0))
 else if k=5 then parT (jZ op) (kid a 0)++32::((jh op).data.toList++32::parT (jZ op+1) (kid a 1))
 else if k=6 then name.data.toList++91::((kid a 0).2.2++[93])
 else if k=7 then name.data.toList++40::(xN (a.map (·.2.2))++[41])
 else[114,101,97,100,40,41]
mutual
def xv:Ex->List UInt8
 | .mk k op n name args=>nodeT k op n name (uU args)
def uU:List Ex->List (Int × Int × List UInt8)
 | []=>[]
 | e::r=>(e.kind,e.op,xv e)::uU r
end
def opT(lev:Int)(e:Ex):List UInt8:=parT lev (e.kind,e.op,xv e)
def tabT(n:Nat):List UInt8:=List.replicate n 9
def argT(args:List Ex)(i:Nat):List UInt8:=(kid (uU args) i).2.2
def xO(k a:Int)(name:ByteArray)(args:List Ex):List UInt8:=
 if k=1 then tyT a++32::(name.data.toList++32::61::32::(argT args 0++[59]))
 else if k=2 then name.data.toList++32::61::32::(argT args 0++[59])
 else if k=3 then name.data.toList++91::(argT args 0++93::32::61::32::(argT args 1++[59]))
 else if k=4 then 105::102::32::40::(argT args 0++[41,32,123])
 else if k=5 then 119::104::105::108::101::32::40::(argT args 0++[41,32,123])
 else if k=6 then[98,114,101,97,107,59]
 else if k=7 then[99,111,110,116,105,110,117,101,59]
 else if k=8 then 114::101::116::117::114::110::32::(argT args 0++[59])
 else if k=9 then 112::114::105::110::116::40::(argT args 0++[41,59])
 else argT args 0++[59]
mutual
def stT:St->Nat->List UInt8
 | .mk k ty name args thn els,t=>
   tabT t++(xO k ty name args++10 ::
    (if k=4 then kW thn (t+1)++((if els.length=0 then[]else tabT t++([125,32,101,108,115,101,32,123]++10::kW els (t+1)))++(tabT t++[125,10]))
     else if k=5 then kW thn (t+1)++(tabT t++[125,10])else[]))
def kW:List St->Nat->List UInt8
 | [],_=>[]
 | s::r,t=>stT s t++kW r t
end
def arT(a:Ar):List UInt8:=[105,110,116,32]++(a.name.data.toList++91::(Lib.itoa a.size++[93,59,10]))
def paT(x:Pa):List UInt8:=tyT x.type++32::x.name.data.toList
def fuT(f:Fu):List UInt8:=tyT f.type++32::(f.name.data.toList++40::(xN (f.params.map paT)++[41,32,123,10]++(kW f.body 1++[125,10])))
def prT(p:Pr):List UInt8:=(p.arrays.map arT).flatten++(p.funcs.map fuT).flatten
theorem kf(k op n:Int)(name:ByteArray)(args:List Ex)(m:Nat):vJ (.mk k op n name args) m=(decide (1<=m) && zj k op n name args.length && qC args (m-1)):=by rw[vJ]
theorem vK(m:Nat):qC [] m=true:=by rw[qC]
theorem qb(e:Ex)(r:List Ex)(m:Nat):qC (e::r) m=(vJ e m && qC r m):=by rw[qC]
theorem ue{l:List Ex}{m:Nat}(c:qC l m=true){i:Nat}{e:Ex}(b:l[i]? =some e):vJ e m=true:=by
 induction l generalizing i with
 | nil=>simp at b
 | cons a r d=>
   rw[qb,Bool.and_eq_true]at c;cases i with
   | zero=>simp at b;subst b;exact c.1
   | succ i=>exact d c.2 Ih
theorem exsOK_app(a b:List Ex)(m:Nat):qC (a++b) m=(qC a m && qC b m):=by
 induction a with
 | nil=>simp[vK]
 | cons e r c=>rw[List.cons_append,qb,qb,c,Bool.and_assoc]
theorem exsOK_take{l:List Ex}{m i:Nat}{e:Ex}(a:l[i]? =some e):qC (l.take (i+1)) m=(qC (l.take i) m && vJ e m):=by
 rw[List.take_add_one,a];simp only[Option.toList_some];rw[exsOK_app,qb,vK,Bool.and_true]
theorem yK{l:List Ex}{m i:Nat}{e:Ex}(c:l[i]? =some e)(a:vJ e m=false):qC l m=false:=by
 rw[Bool.eq_false_iff];intro b;rw[ue b c]at a;cases a
theorem kH(k a:Int)(name:ByteArray)(args:List Ex)(thn els:List St)(m:Nat):stOK (.mk k a name args thn els) m=(decide (1<=m) && zr k a name args.length thn.length els.length (uL args) && qC args 100 && stsOK thn (m-1) && stsOK els (m-1)):=by rw[stOK]
theorem zAh(m:Nat):stsOK [] m=true:=by rw[stsOK]
theorem jy(e:St)(r:List St)(m:Nat):stsOK (e::r) m=(stOK e m && stsOK r m):=by rw[stsOK]
theorem stsOK_at{l:List St}{m:Nat}(c:stsOK l m=true){i:Nat}{e:St}(b:l[i]? =some e):stOK e m=true:=by
 induction l generalizing i with
 | nil=>simp at b
 | cons a r d=>
   rw[jy,Bool.and_eq_true]at c;cases i with
   | zero=>simp at b;subst b;exact c.1
   | succ i=>exact d c.2 Ih
theorem stsOK_app(a b:List St)(m:Nat):stsOK (a++b) m=(stsOK a m && stsOK b m):=by
 induction a with
 | nil=>simp[zAh]
 | cons e r c=>rw[List.cons_append,jy,jy,c,Bool.and_assoc]
theorem jk{l:List St}{m i:Nat}{e:St}(a:l[i]? =some e):stsOK (l.take (i+1)) m=(stsOK (l.take i) m && stOK e m):=by
 rw[List.take_add_one,a];simp only[Option.toList_some];rw[stsOK_app,jy,zAh,Bool.and_true]
theorem zX{l:List St}{m i:Nat}{e:St}(c:l[i]? =some e)(a:stOK e m=false):stsOK l m=false:=by
 rw[Bool.eq_false_iff];intro b;rw[stsOK_at b c]at a;cases a
theorem exT_mk(k op n:Int)(name:ByteArray)(args:List Ex):xv (.mk k op n name args)=nodeT k op n name (uU args):=by rw[xv]
theorem uf(l:List Ex):uU l=l.map fun e=>(e.kind,e.op,xv e):=by
 induction l with
 | nil=>rw[uU];rfl
 | cons e r a=>rw[uU,a];rfl
theorem kid_at{l:List Ex}{i:Nat}{e:Ex}(a:l[i]? =some e):kid (uU l) i=(e.kind,e.op,xv e):=by
 unfold kid;rw[uf,List.getD_eq_getElem?_getD,List.getElem?_map,a];rfl
theorem argT_at{l:List Ex}{i:Nat}{e:Ex}(a:l[i]? =some e):argT l i=xv e:=by unfold argT;rw[kid_at a]
theorem joinC_snoc(l:List (List UInt8))(x:List UInt8):xN (l++[x])=xN l++((if l.length=0 then[]else[44,32])++x):=by
 induction l with
 | nil=>simp[xN]
 | cons a r c=>
   cases r with
   | nil=>simp[xN]
   | cons b t=>
     have e:(a::b::t)++[x]=a::b::(t++[x]):=rfl;rw[e,xN,xN]
     have d:xN (b::(t++[x]))=xN (b::t)++([44,32]++x):=by
      have:=c;simpa using this
     rw[d];simp
theorem stT_mk(k a:Int)(name:ByteArray)(args:List Ex)(thn els:List St)(t:Nat):stT (.mk k a name args thn els) t=
 tabT t++(xO k a name args++10 ::
  (if k=4 then kW thn (t+1)++((if els.length=0 then[]else tabT t++([125,32,101,108,115,101,32,123]++10::kW els (t+1)))++(tabT t++[125,10]))
   else if k=5 then kW thn (t+1)++(tabT t++[125,10])else[])):=by rw[stT]
theorem stsT_nil(t:Nat):kW [] t=[]:=by rw[kW]
theorem stsT_cons(s:St)(r:List St)(t:Nat):kW (s::r) t=stT s t++kW r t:=by rw[kW]
theorem stsT_app(a b:List St)(t:Nat):kW (a++b) t=kW a t++kW b t:=by
 induction a with
 | nil=>simp[stsT_nil]
 | cons s r c=>rw[List.cons_append,stsT_cons,stsT_cons,c,List.append_assoc]
def jF:List Fu->ByteArray->Option Nat
 | [],_=>none
 | f::r,s=>if f.name=s then some 0 else(jF r s).map (·+1)
def zb:List Ar->ByteArray->Option Nat
 | [],_=>none
 | a::r,s=>if a.name=s then some 0 else(zb r s).map (·+1)
def optI:Option Nat->Int
 | none=>-1
 | some k=>(k:Int)
def kI:List Pa->ByteArray->Option Int
 | [],_=>none
 | x::r,s=>match kI r s with
   | some t=>some t
   | none=>if x.name=s then some x.type else none
def jH(p:Pr)(s:ByteArray):Option Fu:=(jF p.funcs s).bind fun k=>p.funcs[k]?
def jW(op:Int):Int:=if op=18\/op=19\/op=22 then 2 else if op=16\/op=17 then 0 else 1
def uM(op:Int):Int:=if op=18\/op=19\/op=22 then 2 else if op=16\/op=17 then 2 else if 12<=op/\op<=15 then 2 else 1
def yY(p:Pr)(vars:List Pa)(k:Int)(s:ByteArray):Bool:=
 if k=3 then(kI vars s).isSome else if k=6 then(zb p.arrays s).isSome else if k=7 then(jF p.funcs s).isSome else true
def yl(p:Pr)(k:Int)(s:ByteArray)(n:Nat):Bool:=
 if k=7 then(match jH p s with|some f=>decide (n=f.params.length)|none=>true)else true
def yZ(p:Pr)(vars:List Pa)(k op:Int)(s:ByteArray)(l:List Int):Int × Int:=
 if k=2 then(2,0)
 else if k=3 then((kI vars s).getD 0,0)
 else if k=7 then(match jH p s with|some f=>if l=f.params.map (·.type)then(f.type,0)else(0,51)|none=>(0,51))
 else if k=6 then(if l.headD 0=1 then(1,0)else(0,51))
 else if k=4\/k=5 then(if l.all (fun t=>decide ((jW op=0\/t=jW op)/\t=l.headD 0))then(uM op,0)else(0,51))
 else(1,0)
mutual
def qx(p:Pr)(vars:List Pa):Ex->Int × Int
 | .mk k op _ name args=>
   if yY p vars k name=false then(0,50)
   else if yl p k name args.length=false then(0,51)
   else match qU p vars args with
    | .inl e=>(0,e)
    | .inr l=>yZ p vars k op name l
def qU(p:Pr)(vars:List Pa):List Ex->Int ⊕ List Int
 | []=>.inr []
 | e::r=>
   if(qx p vars e).2≠0 then .inl (qx p vars e).2
   else match qU p vars r with
    | .inl x=>.inl x
    | .inr l=>.inr ((qx p vars e).1::l)
end
def trueE:List Ex->Bool
 | .mk k _ n _ _::_=>decide (k=2) && decide (n=1)
 | []=>false
mutual
def brkS:St->Bool
 | .mk k _ _ _ thn els=>decide (k=6) || (decide (k=4) && (jM thn || jM els))
def jM:List St->Bool
 | []=>false
 | s::r=>brkS s || jM r
end
mutual
def endS:St->Bool
 | .mk k _ _ args thn els=>decide (k=8) || (decide (k=4) && (endSs thn && endSs els)) || (decide (k=5) && (trueE args && !jM thn))
def endSs:List St->Bool
 | []=>false
 | s::r=>endS s || endSs r
end
def kX(p:Pr)(vars:List Pa)(e:Ex)(t:Int):Int:=if(qx p vars e).2=0 then(if(qx p vars e).1=t then 0 else 51)else(qx p vars e).2
def jz:Ex:=.mk 1 0 0 ⟨#[]⟩ []
def kw(p:Pr)(ft:Int)(k a:Int)(name:ByteArray)(args:List Ex)(vars:List Pa)(frm:Nat)(loop:Bool):Int:=
 if k=1 then(if kX p vars (args.getD 0 jz) a=0 then(if(kI (vars.drop frm) name).isSome then 50 else 0)else kX p vars (args.getD 0 jz) a)
 else if k=2 then(match kI vars name with|none=>50|some t=>kX p vars (args.getD 0 jz) t)
 else if k=3 then(if(zb p.arrays name).isSome then(if kX p vars (args.getD 0 jz) 1=0 then kX p vars (args.getD 1 jz) 1 else kX p vars (args.getD 0 jz) 1)else 50)
 else if k=4\/k=5 then kX p vars (args.getD 0 jz) 2
 else if k=8 then kX p vars (args.getD 0 jz) ft
 else if k=9 then kX p vars (args.getD 0 jz) 1
 else if k=10 then(qx p vars (args.getD 0 jz)).2
 else if loop then 0 else 53
def j8(k a:Int)(name:ByteArray)(vars:List Pa):List Pa:=if k=1 then vars++[⟨name,a⟩]else vars
def letS:St->List Pa->List Pa
 | .mk k ty name _ _ _,vars=>j8 k ty name vars
mutual
def vL(p:Pr)(ft:Int):St->List Pa->Nat->Bool->Nat->Int × Nat
 | .mk k ty name args thn els,vars,frm,loop,n=>
   if kw p ft k ty name args vars frm loop≠0 then(kw p ft k ty name args vars frm loop,n)
   else if(zf p ft thn (j8 k ty name vars) (j8 k ty name vars).length (loop || decide (k=5)) (n+1)).1≠0 then zf p ft thn (j8 k ty name vars) (j8 k ty name vars).length (loop || decide (k=5)) (n+1)
   else zf p ft els (j8 k ty name vars) (j8 k ty name vars).length loop (zf p ft thn (j8 k ty name vars) (j8 k ty name vars).length (loop || decide (k=5)) (n+1)).2
def zf(p:Pr)(ft:Int):List St->List Pa->Nat->Bool->Nat->Int × Nat
 | [],_,_,_,n=>(0,n)
 | s::r,vars,frm,loop,n=>
   if(vL p ft s vars frm loop n).1≠0 then vL p ft s vars frm loop n
   else zf p ft r (letS s vars) frm loop (vL p ft s vars frm loop n).2
end
def dupP:List Pa->Bool
 | []=>false
 | x::r=>(kI r x.name).isSome || dupP r
def uV(p:Pr)(f:Fu):Int × Nat:=
 if dupP f.params then(50,0)
 else if(zf p f.type f.body f.params f.params.length false 0).1≠0 then zf p f.type f.body f.params f.params.length false 0
 else if endSs f.body then(0,0)else(52,(zf p f.type f.body f.params f.params.length false 0).2)
def chkFs(p:Pr):List Fu->Nat->Int × Nat × Nat
 | [],_=>(0,0,0)
 | f::r,i=>if(uV p f).1≠0 then((uV p f).1,i,(uV p f).2)else chkFs p r (i+1)
def dupF:List Fu->Bool
 | []=>false
 | f::r=>(jF r f.name).isSome || dupF r
def dupA(p:Pr):List Ar->Bool
 | []=>false
 | a::r=>(zb r a.name).isSome || (jF p.funcs a.name).isSome || dupA p r
def uN(p:Pr):Bool:=match jH p ⟨#[109,97,105,110]⟩with|some f=>decide (f.type=1) && decide (f.params.length=0)|none=>false
def vD(p:Pr):Int × Nat × Nat:=
 if prOK p=false then(1,0,0)
 else if dupA p p.arrays || dupF p.funcs || !uN p then(50,0,0)
 else chkFs p p.funcs 0
end Go.Proofs.YthcmenajdcbnnaaGreatDoor
