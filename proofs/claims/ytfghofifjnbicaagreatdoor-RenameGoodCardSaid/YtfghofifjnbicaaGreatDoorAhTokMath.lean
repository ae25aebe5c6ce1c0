import Derived.Test.YtfghofifjnbicaaGreatDoorAhZed
import Derived.Lib.AtoiAllCases
import Derived.Lib.SlTrimSet
import Derived.Lib.IndexLaws
import Derived.Lib.Strings
import Derived.WalkKit
import Derived.OpenShut
import Derived.Lib.ItoaMem
set_option linter.unusedSimpArgs false
set_option linter.unusedVariables false
set_option maxRecDepth 100000
/- The tokens of a text as a plain function of its bytes (scan), and what of it the walks and the laws of the layer token ask: no Go, no program. -/
namespace Go.Proofs.YtfghofifjnbicaaGreatDoor
open Lib (hid)
open Go.RowKit
structure Tok where
 kind:Int
 text:List UInt8
 line:Nat
def uB (c:UInt8):Bool:=(65≤c.toNat && c.toNat≤90) || (97≤c.toNat && c.toNat≤122) || c.toNat == 95
def kO (c:UInt8):Bool:=48≤c.toNat && c.toNat≤57
def qH (c:UInt8):Bool:=uB c || kO c
def ku (c:UInt8):Bool:=c.toNat == 32 || c.toNat == 9 || c.toNat == 13 || c.toNat == 10
def words:List (List UInt8):=
 [[105,110,116],[98,111,111,108],[105,102],[101,108,115,101],[119,104,105,108,101],[98,114,101,97,107],
  [99,111,110,116,105,110,117,101],[114,101,116,117,114,110],[112,114,105,110,116],[114,101,97,100],
  [116,114,117,101],[102,97,108,115,101],[105,56],[105,49,54],[105,51,50],[117,56],[117,49,54],[117,51,50]]
def kR (t:List UInt8):Bool:=words.contains t
def jl (t:List UInt8):Bool:=(!t.isEmpty) && decide (t.length≤20) && uB (t.headD 0) && t.all qH && !kR t
def jd (acc:Nat) (l:List UInt8):Nat:=l.foldl (fun a c=>a * 10+(c.toNat-48)) acc
theorem uZ (acc:Nat):jd acc []=acc:=by unfold jd;rw[List.foldl_nil]
theorem decV_cons (acc:Nat) (c:UInt8) (r:List UInt8):jd acc (c :: r)=jd (acc * 10+(c.toNat-48)) r:=by unfold jd;rw[List.foldl_cons]
theorem decV_app (a b:List UInt8) (acc:Nat):jd acc (a++b)=jd (jd acc a) b:=by unfold jd;rw[List.foldl_append]
theorem vT (l:List UInt8) (acc:Nat) (c:UInt8):jd acc (l++[c])=jd acc l * 10+(c.toNat-48):=by rw[decV_app,decV_cons,uZ]
def jm (t:List UInt8):Bool:=(!t.isEmpty) && t.all kO && (t == [48] || t.headD 0 != 48) && decide (jd 0 t<9223372036854775808)
def kw (t:List UInt8):Option Int:=if kR t then some 2 else if jl t then some 1 else if jm t then some 0 else none
def signs2:List (List UInt8):=[[61,61],[33,61],[60,61],[62,61],[60,60],[62,62],[38,38],[124,124]]
def signs1:List (List UInt8):=[[40],[41],[123],[125],[91],[93],[44],[59],[61],[60],[62],[43],[45],[42],[47],[37],[38],[124],[94],[126],[33]]
def yt:List (List UInt8):=[62,62,62] :: (signs2++signs1)
def kb (l:List UInt8):List UInt8:=(yt.find? (fun t=>Lib.hasPrefix l t)).getD []
def one (l:List UInt8):Option (Int × List UInt8):=
 if l.takeWhile qH≠[] then (kw (l.takeWhile qH)).map fun k=>(k,l.takeWhile qH)
 else if kb l≠[] then some (2,kb l) else none
def zq:List UInt8→Nat→List Tok × Option Nat
 | [],line=>([⟨3,[],line⟩],none)
 | c :: r,line=>
   if c.toNat == 10 then zq r (line+1)
   else if ku c then zq r line
   else if c.toNat == 47 && r.head? == some 47 then zq (r.dropWhile (fun d=>d.toNat != 10)) line
   else match one (c :: r) with
    | none=>([],some line)
    | some (k,t)=>(⟨k,t,line⟩ :: (zq (r.drop (t.length-1)) line).1,(zq (r.drop (t.length-1)) line).2)
termination_by l=>l.length
decreasing_by
 all_goals simp only[List.length_cons,List.length_drop]
 all_goals first
  | omega
  | exact Nat.lt_succ_of_le (List.IsSuffix.length_le (List.dropWhile_suffix _))
def yJ (c:Int):Bool:=decide ((65≤c∧c≤90)∨(97≤c∧c≤122)∨c=95)
def yu (c:Int):Bool:=decide (48≤c∧c≤57)
theorem vU (c:UInt8):yJ (c.toNat:Int)=uB c:=by
 unfold yJ uB;rw[Bool.eq_iff_iff];simp;omega
theorem vV (c:UInt8):yu (c.toNat:Int)=kO c:=by
 unfold yu kO;rw[Bool.eq_iff_iff];simp;omega
theorem letZ_high (c:Int) (h:128≤c):yJ c=false:=by unfold yJ;simp;omega
theorem digZ_high (c:Int) (h:128≤c):yu c=false:=by unfold yu;simp;omega
theorem isAln_low (c:UInt8) (h:qH c=true):c.toNat<128:=by
 simp[qH,uB,kO]at h;omega
theorem uC (c:UInt8) (h:uB c=true):kO c=false:=by
 simp[uB,kO]at h ⊢;omega
theorem span_at (p:UInt8→Bool) (l:List UInt8) (k:Nat) (hk:k≤l.length) (h1:∀ (j:Nat) b,j<k→l[j]? =some b→p b=true) (h2:∀ b,l[k]? =some b→p b=false):(l.takeWhile p)=l.take k:=by
 induction l generalizing k with
 | nil=>simp
 | cons a t ih=>
   cases k with
   | zero=>
     have:=h2 a rfl;simp[List.takeWhile,this]
   | succ k=>
     have:=h1 0 a (by omega) rfl;rw[List.takeWhile_cons_of_pos this,List.take_succ_cons,ih k (by simpa using hk) (fun j b hj hb=>h1 (j+1) b (by omega) (by simpa using hb)) (fun b hb=>h2 b (by simpa using hb))]
theorem ua (p:UInt8→Bool) (l:List UInt8) (k:Nat) (hk:k≤l.length) (h1:∀ (j:Nat) b,j<k→l[j]? =some b→p b=true) (h2:∀ b,l[k]? =some b→p b=false):(l.takeWhile p).length=k:=by
 rw[span_at p l k hk h1 h2,List.length_take];omega
def jo (l:List UInt8):Nat:=(l.takeWhile qH).length
theorem spanN_le (l:List UInt8):jo l≤l.length:=List.IsPrefix.length_le (List.takeWhile_prefix _)
theorem spanN_all (l:List UInt8):jo l=l.length↔l.all qH=true:=by
 unfold jo;constructor
 · intro h
   have:=List.IsPrefix.eq_of_length (List.takeWhile_prefix (l:=l) qH) h;rw[←this];exact List.all_takeWhile
 · intro h
   exact ua qH l l.length Zr (fun j b _ hb=>List.all_eq_true.1 h b (List.mem_of_getElem? hb)) (fun b hb=>by simp at hb)
theorem nameB_eq (l:List UInt8) (h0:l≠[]) (h20:l.length≤20):jl l=((!kO (l.headD 0)) && decide (jo l=l.length) && !kR l):=by
 cases l with
 | nil=>exact absurd rfl h0
 | cons c r=>
   rw[Bool.eq_iff_iff];simp only[jl,spanN_all,List.headD_cons,Bool.and_eq_true,decide_eq_true_eq];simp only[List.isEmpty_cons,Bool.not_false,h20,true_and,List.all_cons,Bool.and_eq_true];constructor
   · rintro⟨⟨hl,ha,hr⟩,hw⟩
     exact⟨⟨by simp[uC c hl],ha,hr⟩,hw⟩
   · rintro⟨⟨hd,ha,hr⟩,hw⟩
     refine⟨⟨?_,ha,hr⟩,hw⟩;simp[qH]at ha;rcases ha with ha | ha
     · exact ha
     · simp[ha]at hd
theorem nameB_nil:jl []=false:=rfl
theorem nameB_long (l:List UInt8) (h:20<l.length):jl l=false:=by
 simp[jl];omega
def nl (l:List UInt8):Nat:=l.countP (fun d=>d.toNat == 10)
def gapN (l:List UInt8):Nat:=if Lib.hasPrefix l [47,47] then (l.takeWhile (fun d=>d.toNat != 10)).length else (l.takeWhile ku).length
theorem dropWhile_eq (p:UInt8→Bool) (l:List UInt8):l.dropWhile p=l.drop (l.takeWhile p).length:=by
 have h:=List.takeWhile_append_dropWhile (p:=p) (l:=l)
 conv=>rhs;rw[←h]
 rw[List.drop_append];simp
theorem nl_of_blk (c:UInt8) (h:c.toNat=10):ku c=true:=by simp[ku,h]
theorem yv:∀ (l:List UInt8) (line:Nat),zq l line=zq (l.drop (l.takeWhile ku).length) (line+nl (l.take (l.takeWhile ku).length))
 | [],line=>by simp[nl]
 | c :: r,line=>by
   by_cases hb:ku c=true
   · rw[List.takeWhile_cons_of_pos hb]
     simp only[List.length_cons,List.drop_succ_cons,List.take_succ_cons];rw[zq];by_cases h10:c.toNat=10
     · simp only[h10,beq_self_eq_true,if_true]
       rw[yv r (line+1)];congr 1;simp[nl,h10];omega
     · have:(c.toNat == 10)=false:=by simpa using h10
       simp only[this,hb,if_true];rw[if_neg (by simp),yv r line];congr 1;simp[nl,h10]
   · rw[List.takeWhile_cons_of_neg hb]
     simp[nl]
theorem x7 {l:List UInt8} (h:Lib.hasPrefix l [47,47]=true):∃ r,l=47 :: 47 :: r:=by
 match l,h with
 | [],h=>simp[Lib.hasPrefix]at h
 | [a],h=>simp[Lib.hasPrefix]at h
 | a :: b :: r,h=>
   simp[Lib.hasPrefix]at h;exact⟨r,by rw[←h.1,←h.2]⟩
theorem nl_take (l:List UInt8):nl (l.take (l.takeWhile (fun d=>d.toNat != 10)).length)=0:=by
 have e:l.take (l.takeWhile (fun d=>d.toNat != 10)).length=l.takeWhile (fun d=>d.toNat != 10):=(List.prefix_iff_eq_take.1 (List.takeWhile_prefix _)).symm;rw[e];unfold nl;rw[List.countP_eq_zero];intro a ha;have:=List.all_takeWhile (p:=fun d:UInt8=>d.toNat != 10) (l:=l);have:=List.all_eq_true.1 this a ha;simpa using this
theorem scan_gap (l:List UInt8) (line:Nat):zq l line=zq (l.drop (gapN l)) (line+nl (l.take (gapN l))):=by
 unfold gapN;split
 · rename_i h
   obtain⟨r,rfl⟩:=x7 h;rw[nl_take,←dropWhile_eq]
   conv=>lhs;rw[zq]
   rfl
 · exact yv l line
theorem gap_zero {c:UInt8} {r:List UInt8} (h:gapN (c :: r)=0):ku c=false∧(c.toNat == 47 && r.head? == some 47)=false:=by
 unfold gapN at h;split at h
 · rename_i hp
   obtain⟨r',e⟩:=x7 hp;rw[e]at h;simp at h
 · rename_i hp
   refine⟨?_,?_⟩
   · cases hb:ku c with
     | false=>rfl
     | true=>rw[List.takeWhile_cons_of_pos hb]at h;simp at h
   · rw[Bool.eq_false_iff]
     intro hc;apply hp;simp at hc;obtain⟨h1,h2⟩:=hc;have h1':c=47:=UInt8.toNat_inj.1 h1;cases r with
     | nil=>simp at h2
     | cons b t=>
       simp at h2;subst h1' h2;rfl
theorem scan_step {c:UInt8} {r:List UInt8} (h:gapN (c :: r)=0) (line:Nat):zq (c :: r) line=match one (c :: r) with
 | none=>([],some line)
 | some (k,t)=>(⟨k,t,line⟩ :: (zq (r.drop (t.length-1)) line).1,(zq (r.drop (t.length-1)) line).2):=by
 obtain⟨hb,hc⟩:=gap_zero h
 have h10:(c.toNat == 10)=false:=by
  rw[Bool.eq_false_iff];intro e;rw[nl_of_blk c (by simpa using e)]at hb;cases hb
 rw[zq,if_neg (by simp[h10]),if_neg (by simp[hb]),if_neg (by rw[hc];simp)]
theorem decV_ge (l:List UInt8):∀ (acc:Nat),acc≤jd acc l:=by
 induction l with
 | nil=>intro acc;rw[uZ];exact Nat.le_refl _
 | cons c r ih=>
   intro acc;have h:=ih (acc * 10+(c.toNat-48));rw[decV_cons];omega
theorem find_first {α:Type} (p:α→Bool):∀ (xs:List α) (k:Nat) (t:α),xs[k]? =some t→p t=true→(∀ (j:Nat) u,j<k→xs[j]? =some u→p u=false)→xs.find? p=some t
 | [],k,t,h,_,_=>by simp at h
 | x :: xs,0,t,h,hp,_=>by
   simp at h;subst h;simp[List.find?,hp]
 | x :: xs,k+1,t,h,hp,hn=>by
   have h0:=hn 0 x (by omega) rfl;rw[List.find?_cons_of_neg (by simp[h0])];exact find_first p xs k t (by simpa using h) hp (fun j u hj hu=>hn (j+1) u (by omega) (by simpa using hu))
theorem find_never {α:Type} (p:α→Bool) (xs:List α) (hn:∀ (j:Nat) u,xs[j]? =some u→p u=false):xs.find? p=none:=by
 rw[List.find?_eq_none];intro x hx;obtain⟨j,hj⟩:=List.mem_iff_getElem?.1 hx;simp[hn j x hj]
end Go.Proofs.YtfghofifjnbicaaGreatDoor
namespace Go.Proofs.YtfghofifjnbicaaGreatDoor
open Lib (hid)
open Go.RowKit (wrap64 wrap32)
def wOne (op a:Int):Int:=
 if op=20 then wrap64 (-a) else if op=21 then -1-a else if op=22 then (if a=0 then 1 else 0) else if op=23 then IntKind.i8.wrap a else if op=24 then IntKind.i16.wrap a
 else if op=25 then wrap32 a else if op=26 then a % 256 else if op=27 then a % 65536 else if op=28 then a % 4294967296 else 0
def cnt (b:Int):Nat:=(b % 64).toNat
def flag (b:Bool):Int:=if b then 1 else 0
def wHas (op b:Int):Bool:=decide (1≤op) && decide (op≤17) && !((decide (op=4) || decide (op=5)) && decide (b=0))
def cmp (op a b:Int):Bool:=
 if op=12 then decide (a<b) else if op=13 then decide (a≤b) else if op=14 then decide (b<a) else if op=15 then decide (b≤a) else if op=16 then a == b else a != b
def sft (op a b:Int):Int:=
 if op=9 then wrap64 (a * 2 ^ cnt b) else if op=10 then a / 2 ^ cnt b else wrap64 (a % 18446744073709551616 / 2 ^ cnt b)
def dvd (op a b:Int):Int:=if b=0 then 0 else if op=4 then wrap64 (a.tdiv b) else a.tmod b
def wTwo (op a b:Int):Int:=
 if op=1 then wrap64 (a+b) else if op=2 then wrap64 (a-b) else if op=3 then wrap64 (a * b)
 else if op=4∨op=5 then dvd op a b
 else if op=6 then bits .and .i64 a b else if op=7 then bits .or .i64 a b else if op=8 then bits .xor .i64 a b
 else if op=9∨op=10∨op=11 then sft op a b else if 12≤op∧op≤17 then flag (cmp op a b) else 0
def sgnL:List (List UInt8):=[[],[43],[45],[42],[47],[37],[38],[124],[94],[60,60],[62,62],[62,62,62],[60],[60,61],[62],[62,61],[61,61],[33,61],[38,38],[124,124],[45],[126],[33],[105,56],[105,49,54],[105,51,50],[117,56],[117,49,54],[117,51,50]]
def lvlL:List Int:=[0,9,9,10,10,10,5,3,4,8,8,8,7,7,7,7,6,6,2,1,0,0,0,0,0,0,0,0,0]
def sgn (k:Nat):ByteArray:=⟨(sgnL.getD k []).toArray⟩
def lvl (k:Nat):Int:=lvlL.getD k 0
def kG (op:Int):ByteArray:=if 1≤op∧op≤28 then sgn op.toNat else ⟨#[]⟩
def kS (op:Int):Int:=if 1≤op∧op≤28 then lvl op.toNat else 0
end Go.Proofs.YtfghofifjnbicaaGreatDoor
namespace Go.Proofs.YtfghofifjnbicaaGreatDoor
open Lib (hid)
open Go.RowKit
inductive Ex where
 | mk (kind op n:Int) (name:ByteArray) (args:List Ex)
inductive St where
 | mk (kind type:Int) (name:ByteArray) (args:List Ex) (thn els:List St)
structure Pa where
 name:ByteArray
 type:Int
structure Fu where
 name:ByteArray
 type:Int
 params:List Pa
 body:List St
structure Ar where
 name:ByteArray
 size:Int
structure Pr where
 arrays:List Ar
 funcs:List Fu
def Ex.kind:Ex→Int | .mk k _ _ _ _=>k
def Ex.op:Ex→Int | .mk _ o _ _ _=>o
def Ex.n:Ex→Int | .mk _ _ n _ _=>n
def Ex.name:Ex→ByteArray | .mk _ _ _ s _=>s
def Ex.args:Ex→List Ex | .mk _ _ _ _ l=>l
def vt (s:ByteArray):Bool:=jl s.data.toList
def eB (s:ByteArray):Bool:=decide (s.size=0)
def yw (t:Int):Bool:=decide (t=1∨t=2)
def zh (k op n:Int) (name:ByteArray) (len:Nat):Bool:=
 if k=1 then decide (0≤n) && decide (op=0) && eB name && decide (len=0)
 else if k=2 then decide (n=0∨n=1) && decide (op=0) && eB name && decide (len=0)
 else if k=3 then vt name && decide (op=0) && decide (n=0) && decide (len=0)
 else if k=4 then decide (20≤op∧op≤28) && decide (n=0) && eB name && decide (len=1)
 else if k=5 then decide (0<kS op) && decide (n=0) && eB name && decide (len=2)
 else if k=6 then vt name && decide (op=0) && decide (n=0) && decide (len=1)
 else if k=7 then vt name && decide (op=0) && decide (n=0) && decide (len≤8)
 else if k=8 then decide (op=0) && decide (n=0) && eB name && decide (len=0)
 else false
mutual
def yr:Ex→Nat→Bool
 | .mk k op n name args,m=>decide (1≤m) && zh k op n name args.length && zr args (m-1)
def zr:List Ex→Nat→Bool
 | [],_=>true
 | e :: r,m=>yr e m && zr r m
end
def yx (args:List Ex):Bool:=match args with | e :: _=>decide (e.kind=7) | []=>false
def zZ (k ty:Int) (name:ByteArray) (nargs nthn nels:Nat) (isCall:Bool):Bool:=
 if k=1 then yw ty && vt name && decide (nargs=1) && decide (nthn=0) && decide (nels=0)
 else if k=2 then decide (ty=0) && vt name && decide (nargs=1) && decide (nthn=0) && decide (nels=0)
 else if k=3 then decide (ty=0) && vt name && decide (nargs=2) && decide (nthn=0) && decide (nels=0)
 else if k=4 then decide (ty=0) && eB name && decide (nargs=1)
 else if k=5 then decide (ty=0) && eB name && decide (nargs=1) && decide (nels=0)
 else if k=6∨k=7 then decide (ty=0) && eB name && decide (nargs=0) && decide (nthn=0) && decide (nels=0)
 else if k=8∨k=9 then decide (ty=0) && eB name && decide (nargs=1) && decide (nthn=0) && decide (nels=0)
 else if k=10 then decide (ty=0) && eB name && decide (nargs=1) && decide (nthn=0) && decide (nels=0) && isCall
 else false
mutual
def stOK:St→Nat→Bool
 | .mk k ty name args thn els,m=>decide (1≤m) && zZ k ty name args.length thn.length els.length (yx args) && zr args 100 && z8 thn (m-1) && z8 els (m-1)
def z8:List St→Nat→Bool
 | [],_=>true
 | s :: r,m=>stOK s m && z8 r m
end
def yK (a:Ar):Bool:=vt a.name && decide (1≤a.size∧a.size≤1000)
def y6 (x:Pa):Bool:=vt x.name && yw x.type
def k8 (f:Fu):Bool:=vt f.name && yw f.type && decide (f.params.length≤8) && f.params.all y6 && z8 f.body 100
def prOK (p:Pr):Bool:=p.arrays.all yK && p.funcs.all k8
def parT (lev:Int) (c:Int × Int × List UInt8):List UInt8:=if c.1=5∧kS c.2.1<lev then 40 :: (c.2.2++[41]) else c.2.2
def joinC:List (List UInt8)→List UInt8
 | []=>[]
 | [x]=>x
 | x :: y :: r=>x++44 :: 32 :: joinC (y :: r)
def boolT (b:Bool):List UInt8:=if b then [116,114,117,101] else [102,97,108,115,101]
def kid (cs:List (Int × Int × List UInt8)) (i:Nat):Int × Int × List UInt8:=cs.getD i (0,0,[])
def nodeT (k op n:Int) (name:ByteArray) (cs:List (Int × Int × List UInt8)):List UInt8:=
 if k=1 then Lib.itoa n
 else if k=2 then boolT (decide (n=1))
 else if k=3 then name.data.toList
 else if k=4 then (if 23≤op then (kG op).data.toList++40 :: ((kid cs 0).2.2++[41]) else (kG op).data.toList++parT 11 (kid cs 0))
 else if k=5 then parT (kS op) (kid cs 0)++32 :: ((kG op).data.toList++32 :: parT (kS op+1) (kid cs 1))
 else if k=6 then name.data.toList++91 :: ((kid cs 0).2.2++[93])
 else if k=7 then name.data.toList++40 :: (joinC (cs.map (·.2.2))++[41])
 else [114,101,97,100,40,41]
mutual
def exT:Ex→List UInt8
 | .mk k op n name args=>nodeT k op n name (exTs args)
def exTs:List Ex→List (Int × Int × List UInt8)
 | []=>[]
 | e :: r=>(e.kind,e.op,exT e) :: exTs r
end
theorem ju (k op n:Int) (name:ByteArray) (args:List Ex) (m:Nat):yr (.mk k op n name args) m=(decide (1≤m) && zh k op n name args.length && zr args (m-1)):=by rw[yr]
theorem yL (m:Nat):zr [] m=true:=by rw[zr]
theorem y7 (e:Ex) (r:List Ex) (m:Nat):zr (e :: r) m=(yr e m && zr r m):=by rw[zr]
theorem qV {l:List Ex} {m:Nat} (h:zr l m=true) {i:Nat} {e:Ex} (hi:l[i]? =some e):yr e m=true:=by
 induction l generalizing i with
 | nil=>simp at hi
 | cons a r ih=>
   rw[y7,Bool.and_eq_true]at h;cases i with
   | zero=>simp at hi;subst hi;exact h.1
   | succ i=>exact ih h.2 (by simpa using hi)
theorem exsOK_app (a b:List Ex) (m:Nat):zr (a++b) m=(zr a m && zr b m):=by
 induction a with
 | nil=>simp[yL]
 | cons e r ih=>rw[List.cons_append,y7,y7,ih,Bool.and_assoc]
theorem uI {l:List Ex} {m i:Nat} {e:Ex} (hi:l[i]? =some e):zr (l.take (i+1)) m=(zr (l.take i) m && yr e m):=by
 rw[List.take_add_one,hi];simp only[Option.toList_some];rw[exsOK_app,y7,yL,Bool.and_true]
theorem xT {l:List Ex} {m i:Nat} {e:Ex} (hi:l[i]? =some e) (h:yr e m=false):zr l m=false:=by
 rw[Bool.eq_false_iff];intro hc;rw[qV hc hi]at h;cases h
theorem ja (k ty:Int) (name:ByteArray) (args:List Ex) (thn els:List St) (m:Nat):stOK (.mk k ty name args thn els) m=(decide (1≤m) && zZ k ty name args.length thn.length els.length (yx args) && zr args 100 && z8 thn (m-1) && z8 els (m-1)):=by rw[stOK]
theorem vW (m:Nat):z8 [] m=true:=by rw[z8]
theorem x8 (e:St) (r:List St) (m:Nat):z8 (e :: r) m=(stOK e m && z8 r m):=by rw[z8]
theorem stsOK_at {l:List St} {m:Nat} (h:z8 l m=true) {i:Nat} {e:St} (hi:l[i]? =some e):stOK e m=true:=by
 induction l generalizing i with
 | nil=>simp at hi
 | cons a r ih=>
   rw[x8,Bool.and_eq_true]at h;cases i with
   | zero=>simp at hi;subst hi;exact h.1
   | succ i=>exact ih h.2 (by simpa using hi)
theorem stsOK_app (a b:List St) (m:Nat):z8 (a++b) m=(z8 a m && z8 b m):=by
 induction a with
 | nil=>simp[vW]
 | cons e r ih=>rw[List.cons_append,x8,x8,ih,Bool.and_assoc]
theorem jT {l:List St} {m i:Nat} {e:St} (hi:l[i]? =some e):z8 (l.take (i+1)) m=(z8 (l.take i) m && stOK e m):=by
 rw[List.take_add_one,hi];simp only[Option.toList_some];rw[stsOK_app,x8,vW,Bool.and_true]
theorem zV {l:List St} {m i:Nat} {e:St} (hi:l[i]? =some e) (h:stOK e m=false):z8 l m=false:=by
 rw[Bool.eq_false_iff];intro hc;rw[stsOK_at hc hi]at h;cases h
end Go.Proofs.YtfghofifjnbicaaGreatDoor
