import Derived.Test.YthcmenajdcbnnaaGreatDoorAtParText
set_option linter.unusedSimpArgs false
set_option linter.unusedVariables false
set_option maxRecDepth 100000
/- What a text is parsed to, or why it is not, and at which line, as a plain function: no Go, no program. -/
namespace Go.Proofs.YthcmenajdcbnnaaGreatDoor
open Lib (hid)
open Go.RowKit
theorem kindT_num{t:List UInt8}(a:xg t=some 0):kT t=true:=by
 unfold xg at a;split at a
 .injection a with a
  omega
 .split at a
  .injection a with a
   omega
  .split at a
   .rename_i b
    exact b
   .cases a
theorem one_num{l t:List UInt8}{k:Int}(a:one l=some (k,t))(d:k=0):kT t=true:=by
 subst d;unfold one at a;split at a
 .cases hk:xg (l.takeWhile qO)with
  | none=>rw[hk]at a;cases a
  | some j=>
    rw[hk]at a;injection a with a;injection a with b c;subst b c;exact kindT_num hk
 .split at a
  .injection a with a
   injection a with b c;omega
  .cases a
theorem vR:∀(n:Nat) (l:List UInt8) (g:Nat) (b:List Tok),l.length<=n->zn l g=(b,none)->(∀t∈b,t.kind=0->kT t.text=true/\t.text.length<=l.length)/\b.length<=l.length+1
 | _,[],g,b,_,a=>by
   rw[zn]at a;injection a with a _;subst a;refine⟨fun t h=>?_,Ia⟩;obtain rfl:=List.mem_singleton.1 h;exact fun a=>Ii
 | 0,c::r,g,b,a,_=>by simp at a
 | n+1,c::r,g,b,hl,a=>by
   simp only[List.length_cons]at hl ⊢;rw[zn]at a
   have j:∀{k:Nat},k<=r.length->((∀t∈b,t.kind=0->kT t.text=true/\t.text.length<=k)/\b.length<=k+1)->(∀t∈b,t.kind=0->kT t.text=true/\t.text.length<=r.length+1)/\b.length<=r.length+1+1:=fun z ⟨m,y⟩=>
    ⟨fun t h e=>⟨(m t h e).1,by have:=(m t h e).2;omega⟩,I7⟩
   split at a
   .exact j Zr (vR n r _ b I7 a)
   .split at a
    .exact j Zr (vR n r _ b I7 a)
    .split at a
     .have o:=List.IsSuffix.length_le (List.dropWhile_suffix (l:=r) (fun d:UInt8=>d.toNat != 10))
      exact j o (vR n _ _ b I7 a)
     .split at a
      .cases a
      .rename_i k t p
       have o:(r.drop (t.length-1)).length=r.length-(t.length-1):=List.length_drop;obtain⟨B,v,_⟩:=one_tk p;rw[List.length_cons]at v;injection a with w x;obtain⟨q,A⟩:=vR n (r.drop (t.length-1)) g (zn (r.drop (t.length-1)) g).1 I7 (by rw[<-x]);subst w;refine⟨fun u i=>?_,?_⟩
       .rcases List.mem_cons.1 i with rfl|i
        .exact fun e=>⟨one_num p e,v⟩
        .exact fun e=>⟨(q u i e).1,by have:=(q u i e).2;omega⟩
       .rw[List.length_cons]
        omega
def hdL(l:List Tok):Nat:=match l with|t::_=>t.line | []=>0
def pr0:Pr:=⟨[],[]⟩
def docT(a:List Tok):Pr × Int × Nat:=
 match jl a with
 | .ok p _=>if prOK p=true then(p,0,0)else(pr0,2,0)
 | .bad r=>(pr0,20,hdL r)
 | .deep r=>(pr0,2,hdL r)
 | .out=>(pr0,0,0)
def jf(s:ByteArray):Pr × Int × Nat:=
 if 100000<s.size then(pr0,2,0)
 else match (zn s.data.toList 1).2 with
  | some a=>(pr0,20,a)
  | none=>docT (zn s.data.toList 1).1
theorem docP_long{s:ByteArray}(a:100000<s.size):jf s=(pr0,2,0):=by unfold jf;rw[if_pos a]
theorem docP_no{s:ByteArray}(c:s.size<=100000){a:Nat}(b:(zn s.data.toList 1).2=some a):jf s=(pr0,20,a):=by unfold jf;rw[if_neg I7,b]
theorem uu{s:ByteArray}(b:s.size<=100000){ts:List Tok}(a:zn s.data.toList 1=(ts,none)):jf s=docT ts:=by unfold jf;rw[if_neg I7,a]
theorem scan_none{l:List UInt8}(a:(zn l 1).2=none):zn l 1=((zn l 1).1,none):=by rw[<-a]
structure REnv (B:Nat) (p:Pr) (vars:List Pa) (v0 v1 v:Value) (w:World):Prop where
 hB:B<=w.heap.size
 ha:SlA B w v0 p.arrays
 hf:SlF B w v1 p.funcs
 hv:SlP B w v vars
abbrev rckO(a b:Value)(s:ByteArray)(t:Int)(c d:Value)(n:Int):Obj:=.cells #[a,b,.string s,.int .i64 t,c,d,.int .i64 n] 126
theorem numB_parts{l:List UInt8}(a:kT l=true):l≠[]/\l.all jv=true/\jj 0 l<9223372036854775808:=by
 simp only[kT,Bool.and_eq_true,decide_eq_true_eq]at a;refine⟨fun e=>?_,a.1.1.2,a.2⟩;rw[e]at a;simp at a
theorem rvalue_num(s:ByteArray)(w:World)(N:s.size<=281474976710656)(g:kT s.data.toList=true):
 Calls Tryz.prog 57 #[.string s] w fun e w'=>e=.returned (.int .i64 (jj 0 s.data.toList:Nat))/\w=w':=by
 obtain⟨h,u,t⟩:=numB_parts g;have y:0<s.size:=by rw[Lib.size_eq];exact List.length_pos_iff.2 h
 have L:s.toList.isEmpty=false:=Up
 have o:=hid u;have q:=hid g;have j:=hid t;clear h u g t;go_enter Tryz.func57,Tryz.ntmps57;go_wp2
 go_loop [3,4,5] (fun n i _=>∃(k m:Nat),k<=s.size/\i=.int .i64 k/\n=.int .i64 m/\m=jj 0 (s.data.toList.take k)/\m<9223372036854775808) (fun _ i _=>s.size-(intOf i).toNat)
 case atStart=>exact⟨0,0,Nat.zero_le _,rfl,rfl,by rw[List.take_zero,uY],I7⟩
 case round=>
  obtain⟨k,m,M,rfl,rfl,v,K⟩:=hrel;have d:=hid v;clear v;by_cases b:k<s.size
  .obtain⟨c,a⟩:∃c:Int,(s[k].toNat:Int)=c:=⟨_,rfl⟩
   have C:=vh s k b c a;have l:=hid a;have B:=dig_at b o.out;have A:48<=c:=I7
   have I:c<=57:=I7
   clear a B
   have x:¬(9223372036854775807-(c-48)) / 10<(m:Int):=fun x=>by
    have:=numB_over s k m b d.out c l.out A x;rw[q.out]at this;cases this
   go_wp2;have F:=l.out;have E:((m*10+(s[k].toNat-48):Nat):Int)=(m:Int)*10+(c-48):=I7
   have D:=decV_take_le s.data.toList (k+1);rw[zAk b,zAd,<-d.out]at D;have J:=j.out;go_round
   case rel=>exact⟨k+1,m*10+(s[k].toNat-48),I7,by go_num,by rw[E],by rw[zAk b,zAd,<-d.out],I7⟩
   case measure=>simp[intOf];omega
  .have e:k=s.size:=by omega
   subst e
   have p:Hid (m=jj 0 s.data.toList):=by
    unfold Hid;rw[d.out,List.take_of_length_le Uj]
   obtain⟨c,a⟩:∃c:Int,(s[0].toNat:Int)=c:=⟨_,rfl⟩
   have C:=byte_index0 s y c a
   have r:(decide (s.size=1) || decide (c≠48))=true:=by
    rw[<-q.out,numB_one s y o.out j.out];congr 1;rw[Bool.eq_iff_iff];simp;omega
   have z:=hid r;clear a r;by_cases G:1<s.size
   .have H:c≠48:=by
     have:=z.out;rw[decide_eq_false (show ¬s.size=1 by omega),Bool.false_or]at this;exact of_decide_eq_true this
    go_wp2;go_ret;exact⟨congrArg (fun n:Nat=>Ending.returned (.int .i64 (n:Int))) p.out,rfl⟩
   .go_wp2
    go_ret;exact⟨congrArg (fun n:Nat=>Ending.returned (.int .i64 (n:Int))) p.out,rfl⟩
end Go.Proofs.YthcmenajdcbnnaaGreatDoor
