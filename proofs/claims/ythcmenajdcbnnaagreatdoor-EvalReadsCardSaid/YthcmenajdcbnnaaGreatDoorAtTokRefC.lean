import Derived.Test.YthcmenajdcbnnaaGreatDoorAtParPg
import Derived.Lib.IndexBytes
set_option linter.unusedSimpArgs false
set_option linter.unusedVariables false
set_option maxRecDepth 100000
set_option maxHeartbeats 99000000
/- The contract of the document's answer for the layer token: Tokens tells what scan tells. -/
namespace Go.Proofs.YthcmenajdcbnnaaGreatDoor
open Lib (hid)
open Go.RowKit
theorem OM{p:Prop}(h:p:=by
 go_meet
 exact⟨rfl,rfl,_,_,m.out,i.out,heap_alloc_new a _,Zb.alloc Zr _⟩):p:=h
theorem ON{p:Prop}(h:p:=by
 refine⟨?_,World.block_lt_of_cell? w3 ⟨g,k*3+2,none⟩ K,?_⟩
 .obtain⟨_,⟨aj,ae,Z,ak,_⟩,_⟩:=j
  injection Z with i _ _;injection i with i;injection i with i _ _;omega
 .obtain⟨_,_⟩:=p.out
  have c:=(qP p.out g rfl).2;simp at c;omega):p:=h
theorem OO{p:Prop}(h:p:=by
 have a:jI b.heap.size (.slice f ts.length i) ts (jl ts).un w3:=j.st;rw[B.out]at a;exact a):p:=h
theorem OP{p:Prop}(h:p:=by
 have c:jI b.heap.size (.slice m ts.length u) ts (jl ts).un w3:=y.st;rw[D.out]at c;exact c):p:=h
theorem OQ{p:Prop}(h:p:=by
 have:=(List.getElem?_eq_some_iff.1 hb).1;rw[List.length_drop,<-Lib.size_eq]at this;omega):p:=h
theorem byte_at(s:ByteArray)(k:Nat)(a:k<s.size)(i c:Int)(d:i=k)(b:(s[k].toNat:Int)=c)(w:World):(Instr.index 9 (.string s) (.int .i64 i)).run Tryz.prog w=.ok (.int .u8 c) w:=by
 subst d;exact vh s k a c b w
theorem drop_get(s:ByteArray)(p n:Nat)(h:p+n<s.size):(s.data.toList.drop p)[n]? =some s[p+n]:=by
 rw[List.getElem?_drop,yo s (p+n) h]
theorem span_drop{s:ByteArray}{p n:Nat}(f:p+n<=s.size)(c:∀(j:Nat) b,j<n->(s.data.toList.drop p)[j]? =some b->qO b=true)(d:∀e:p+n<s.size,qO s[p+n]=false):kU (s.data.toList.drop p)=n:=by
 refine span_len qO _ n Uf c (fun b hb=>?_)
 have a:p+n<s.size:=by
  exact OQ
 rw[drop_get s p n a]at hb;injection hb with hb;exact hb ▸ d a
theorem drop_step{s:ByteArray}{p n:Nat}(d:p+n<s.size)(a:∀(j:Nat) b,j<n->(s.data.toList.drop p)[j]? =some b->qO b=true)(c:qO s[p+n]=true):
 ∀(j:Nat) b,j<n+1->(s.data.toList.drop p)[j]? =some b->qO b=true:=by
 intro j b f hb;by_cases e:j=n
 .subst e
  rw[drop_get s p j d]at hb;injection hb with hb;exact hb ▸ c
 .exact a j b I7 hb
def RefRel(w:World)(s:ByteArray)(ov c b:Value)(wr:World):Prop:=
 ∃(a line:Nat) (ts:List Tok),b=.int .i64 a/\c=.int .i64 line/\a<=s.size/\line<=a+1/\ts.length<=a/\vF wr w.heap.size ov ts/\Below w.heap.size w wr/\
   zn s.data.toList 1=(ts++(zn (s.data.toList.drop a) line).1,(zn (s.data.toList.drop a) line).2)
theorem rtokens_long(s:ByteArray)(w:World)(a:100000<s.size):Calls Tryz.prog 26 #[.string s] w fun e w'=>e=.returned (.tuple #[.slice none 0 0,.int .i64 2,.int .i64 0])/\w=w':=by
 have b:decide ((100000 :Int)<s.size)=true:=I9
 clear a;go_enter Tryz.func26,Tryz.ntmps26;go_wp2
 go_ret3
 exact⟨rfl,rfl⟩
theorem ju(s:ByteArray)(p:Nat)(h:p<s.size):s.data.toList.drop p=s[p]::s.data.toList.drop (p+1):=by
 rw[List.drop_eq_getElem_cons (by rw[<-Lib.size_eq];exact h)];rfl
theorem scan_nl{c:UInt8}{r:List UInt8}(line:Nat)(h:c.toNat=10):zn (c::r) line=zn r (line+1):=by
 rw[zn,if_pos (by simp[h])]
theorem scan_blk{c:UInt8}{r:List UInt8}(line:Nat)(a:xf c=true)(b:c.toNat≠10):zn (c::r) line=zn r line:=by
 rw[zn,if_neg Ih,if_pos a]
theorem scan_com{l:List UInt8}(line:Nat)(h:Lib.hasPrefix l [47,47]=true):zn l line=zn (l.drop (l.takeWhile (fun d=>d.toNat != 10)).length) line:=by
 have:=scan_gap l line;unfold gapN at this;rw[if_pos h,nl_take]at this;exact this
section
variable {w wr:World} {s:ByteArray} {p line:Nat} {ov:Value} {ts:List Tok} (hp:p<s.size) (hlp:line<=p+1) (htl:ts.length<=p) (hO:vF wr w.heap.size ov ts) (hb:Below w.heap.size w wr)
 (hsc:zn s.data.toList 1=(ts++(zn (s.data.toList.drop p) line).1,(zn (s.data.toList.drop p) line).2))
include hp hlp htl hO hb hsc
theorem ref_nl(X:Obj)(a:s[p].toNat=10):RefRel w s ov (.int .i64 ((line:Int)+1)) (.int .i64 ((p:Int)+1)) (wr.alloc X):=by
 have b:Below wr.heap.size wr (wr.alloc X):=Zb.alloc Zr _;refine⟨p+1,line+1,ts,by go_num,by go_num,hp,I7,I7,hO.below b,hb.alloc hb.size _,?_⟩;rw[hsc,ju s p hp,scan_nl line a]
theorem ref_blk(X:Obj)(a:xf s[p]=true)(b:s[p].toNat≠10):RefRel w s ov (.int .i64 line) (.int .i64 ((p:Int)+1)) (wr.alloc X):=by
 have c:Below wr.heap.size wr (wr.alloc X):=Zb.alloc Zr _;refine⟨p+1,line,ts,by go_num,rfl,hp,I7,I7,hO.below c,hb.alloc hb.size _,?_⟩;rw[hsc,ju s p hp,scan_blk line a b]
omit hp in
theorem ref_com(X:Obj)(q:Nat)(c:q<=s.size)(f:p<=q)(a:Lib.hasPrefix (s.data.toList.drop p) [47,47]=true)(e:((s.data.toList.drop p).takeWhile (fun d=>d.toNat != 10)).length=q-p):RefRel w s ov (.int .i64 line) (.int .i64 (q:Int)) (wr.alloc X):=by
 have b:Below wr.heap.size wr (wr.alloc X):=Zb.alloc Zr _;refine⟨q,line,ts,rfl,rfl,c,I7,I7,hO.below b,hb.alloc hb.size _,?_⟩;rw[hsc,scan_com line a,e,List.drop_drop,show p+(q-p)=q by omega]
end
theorem isBlk_of{c:UInt8}(h:(c.toNat:Int)=32\/(c.toNat:Int)=9\/(c.toNat:Int)=13):xf c=true/\c.toNat≠10:=by
 unfold xf;refine⟨?_,I7⟩;simp;omega
theorem com_prefix(s:ByteArray)(p:Nat)(c:p+1<s.size)(d:(s[p].toNat:Int)=47)(e:(s[p+1].toNat:Int)=47):Lib.hasPrefix (s.data.toList.drop p) [47,47]=true:=by
 rw[ju s p I7,ju s (p+1) c];have a:s[p]=47:=UInt8.toNat_inj.1 (by show s[p].toNat=47;omega);have b:s[p+1]=47:=UInt8.toNat_inj.1 (by show s[p+1].toNat=47;omega);rw[a,b];rfl
theorem com_done{s:ByteArray}{p q:Nat}(i:p<=q)(k:q<=s.size)(a:∀(j:Nat) b,j<q-p->(s.data.toList.drop p)[j]? =some b->(b.toNat != 10)=true)(c:∀g:q<s.size,s[q].toNat=10):
 ((s.data.toList.drop p).takeWhile (fun d=>d.toNat != 10)).length=q-p:=by
 refine span_len _ _ (q-p) Uf a (fun b hb=>?_)
 have f:p+(q-p)<s.size:=by
  exact OQ
 rw[drop_get s p (q-p) f]at hb;injection hb with hb;have e:=c I7;simp only[show p+(q-p)=q by omega]at hb;rw[<-hb,e];rfl
theorem com_step{s:ByteArray}{p q:Nat}(f:p<=q)(g:q<s.size)(a:∀(j:Nat) b,j<q-p->(s.data.toList.drop p)[j]? =some b->(b.toNat != 10)=true)(c:s[q].toNat≠10):
 ∀(j:Nat) b,j<q+1-p->(s.data.toList.drop p)[j]? =some b->(b.toNat != 10)=true:=by
 intro j b d hb;by_cases e:j=q-p
 .subst e
  rw[drop_get s p (q-p) I7]at hb;injection hb with hb;simp only[show p+(q-p)=q by omega]at hb;rw[<-hb];simpa using c
 .exact a j b I7 hb
theorem span_head{s:ByteArray}{p n:Nat}(hp:p<s.size)(a:kU (s.data.toList.drop p)=n)(b:0<n):qO s[p]=true:=by
 rw[ju s p hp]at a;unfold kU at a;cases h:qO s[p]with
 | true=>rfl
 | false=>
   rw[List.takeWhile_cons_of_neg (by simp[h])]at a;simp at a;omega
theorem gap_none(s:ByteArray)(p:Nat)(hp:p<s.size)(hb:xf s[p]=false)(f:¬((s[p].toNat:Int)=47/\∃b:p+1<s.size,(s[p+1].toNat:Int)=47)):gapN (s.data.toList.drop p)=0:=by
 unfold gapN;split
 .rename_i d
  exfalso;obtain⟨r,e⟩:=yX d
  have b:p+1<s.size:=by
   have:=congrArg List.length e;rw[List.length_drop,<-Lib.size_eq]at this;simp at this;omega
  rw[ju s p hp,ju s (p+1) b]at e;injection e with c a;injection a with a g;exact f ⟨by rw[c];rfl,b,by rw[a];rfl⟩
 .rw[ju s p hp,List.takeWhile_cons_of_neg (by simp[hb])]
  rfl
theorem blk_none{c:UInt8}(b:(c.toNat:Int)≠10)(a:¬((c.toNat:Int)=32\/(c.toNat:Int)=9\/(c.toNat:Int)=13)):xf c=false:=by
 unfold xf;simp;omega
theorem kind_word{t:List UInt8}(h:xC t=true):xg t=some 2:=by unfold xg;rw[h];rfl
theorem kind_name{c:UInt8}{t:List UInt8}(a:xC (c::t)=false)(b:isLet c=true):xg (c::t)=if kQ (c::t)then some 1 else none:=by
 unfold xg
 have d:kT (c::t)=false:=by
  unfold kT;rw[List.all_cons,isLet_not_dig c b];simp
 rw[a,d];rfl
theorem kind_num{c:UInt8}{t:List UInt8}(a:xC (c::t)=false)(b:isLet c=false):xg (c::t)=if kT (c::t)then some 0 else none:=by
 unfold xg
 have d:kQ (c::t)=false:=by
  unfold kQ;rw[List.headD_cons,b];simp
 rw[a,d];rfl
def kindR(b c a:Bool):Option Int:=if c then some 2 else if b then(if a then some 1 else none)else if a then some 0 else none
theorem one_word{s:ByteArray}{p n:Nat}(hp:p<s.size)(i:kU (s.data.toList.drop p)=n)(j:0<n)(b c f:Bool)(e:vI (s[p].toNat:Int)=b)(d:xC (s.extract p (p+n)).data.toList=c)
 (a:c=false->(if b then kQ (s.extract p (p+n)).data.toList else kT (s.extract p (p+n)).data.toList)=f):
 one (s.data.toList.drop p)=(kindR b c f).map fun k=>(k,(s.extract p (p+n)).data.toList):=by
 have g:(s.extract p (p+n)).data.toList=(s.data.toList.drop p).take n:=by rw[Lib.extract_data,show p+n-p=n by omega]
 rw[one_span I7,i,<-g];congr 1;obtain⟨m,rfl⟩:∃m,n=m+1:=⟨n-1,I7⟩
 rw[g,ju s p hp,List.take_succ_cons]at d a ⊢;rw[zAe]at e;unfold kindR;cases c with
 | true=>rw[kind_word d];rfl
 | false=>
   have a:=a rfl;cases b with
   | true=>
     rw[kind_name d e];rw[if_pos rfl]at a;rw[a];rfl
   | false=>
     rw[kind_num d e];rw[if_neg Ia]at a;rw[a];rfl
theorem app_pre(a:World)(B:Nat)(v:Value)(ts:List Tok)(k:Int)(b:ByteArray)(line:Nat)(hO:vF a B v ts)(c:B<=a.heap.size):
 (a.alloc (.cells #[.int .i64 k,.string b,.int .i64 line] 57)).ownsRow B 57 3 v ts.length (qk ts)/\
 (∀j u,[Value.int .i64 k,.string b,.int .i64 line][j]? =some u->(a.alloc (.cells #[.int .i64 k,.string b,.int .i64 line] 57)).cell? ((⟨a.heap.size,0,none⟩:Addr).add j)=some u)/\
 B<=(a.alloc (.cells #[.int .i64 k,.string b,.int .i64 line] 57)).heap.size:=by
 have hb:Below a.heap.size a (a.alloc (.cells #[.int .i64 k,.string b,.int .i64 line] 57)):=Zb.alloc Zr _;refine⟨qR hO hb Zr,fun j u d=>?_,Nat.le_trans c hb.size⟩;rw[show(⟨a.heap.size,0,none⟩:Addr).add j=⟨a.heap.size,j,none⟩by unfold Addr.add;split <;> simp_all];exact(cell_of_row _ a.heap.size j _ _ (0,0) (heap_alloc_new a _)).trans Ir
theorem com_ways(s:ByteArray)(p:Nat)(c:Int)(f:¬(c=47/\∃g:p+1<s.size,(s[p+1].toNat:Int)=47)):
 (c == 47)=false\/(c=47/\decide ((p:Int)+1<s.size)=false)\/(c=47/\∃d:Int,(d == 47)=false/\(p:Int)+1<s.size/\∀w,(Instr.index 9 (.string s) (.int .i64 ((p:Int)+1))).run Tryz.prog w=.ok (.int .u8 d) w):=by
 by_cases a:c=47
 .by_cases b:p+1<s.size
  .refine .inr (.inr ⟨a,_,?_,I7,byte_at s (p+1) b _ _ I7 rfl⟩)
   simpa using fun e=>f ⟨a,b,e⟩
  .exact .inr (.inl ⟨a,I9⟩)
 .exact .inl Io
theorem ref_pre(a:World)(B:Nat)(v:Value)(ts:List Tok)(k:Int)(b:ByteArray)(line:Nat)(hO:vF a B v ts)(c:B<=a.heap.size):
 ((a.alloc (.cells #[.int .i64 k,.string b,.int .i64 line] 57)).alloc (.cells #[.int .i64 k,.string b,.int .i64 line] 57)).ownsRow B 57 3 v ts.length (qk ts)/\
 (∀j u,[Value.int .i64 k,.string b,.int .i64 line][j]? =some u->((a.alloc (.cells #[.int .i64 k,.string b,.int .i64 line] 57)).alloc (.cells #[.int .i64 k,.string b,.int .i64 line] 57)).cell? ((⟨a.heap.size+1,0,none⟩:Addr).add j)=some u)/\
 B<=((a.alloc (.cells #[.int .i64 k,.string b,.int .i64 line] 57)).alloc (.cells #[.int .i64 k,.string b,.int .i64 line] 57)).heap.size:=by
 have hb:Below a.heap.size a ((a.alloc (.cells #[.int .i64 k,.string b,.int .i64 line] 57)).alloc (.cells #[.int .i64 k,.string b,.int .i64 line] 57)):=
  (Zb.alloc Zr _).alloc Ia _
 refine⟨qR hO hb Zr,fun j u d=>?_,Nat.le_trans c hb.size⟩;rw[show(⟨a.heap.size+1,0,none⟩:Addr).add j=⟨a.heap.size+1,j,none⟩by unfold Addr.add;split <;> simp_all];exact(cell_of_row _ (a.heap.size+1) j _ _ (0,0) (heap_alloc2_new a _ _)).trans Ir
theorem ref_end{w wr w1:World}{s:ByteArray}{p line:Nat}{ov a:Value}{ts:List Tok}{X:Obj}(hp:p=s.size)(hb:Below w.heap.size w wr)(l:zn s.data.toList 1=(ts++(zn (s.data.toList.drop p) line).1,(zn (s.data.toList.drop p) line).2))
 (hO:vF wr w.heap.size ov ts) (j:w1.ownsRow w.heap.size 57 3 a (ts.length+1) (qk ts++[.int .i64 3,.string ⟨#[]⟩,.int .i64 line])) (f:(wr.alloc X).grownBy w1 ov.ownBlock):
 ko w s.data.toList (.returned (.tuple #[a,.int .i64 0,.int .i64 0])) w1:=by
 have i:s.data.toList.drop p=[]:=List.drop_eq_nil_of_le (by rw[<-Lib.size_eq];omega);have e:zn s.data.toList 1=(ts++[⟨3,[],line⟩],none):=by rw[l,i,scan_end]
 have b:Below wr.heap.size wr (wr.alloc X):=Zb.alloc Zr _;have d:vF (wr.alloc X) w.heap.size ov ts:=hO.below b;have c:=hb.trans (b.mono hb.size);unfold ko;rw[e];refine⟨c.grown f c.size (fun k g=>(qP d k g).2),a,rfl,?_⟩;unfold vF;rw[tokCells_snoc,List.length_append];exact j
section
variable {w wr:World} {s:ByteArray} {p line:Nat} {ov:Value} {ts:List Tok} (hp:p<s.size) (hlp:line<=p+1) (htl:ts.length<=p) (hO:vF wr w.heap.size ov ts) (hb:Below w.heap.size w wr)
 (hsc:zn s.data.toList 1=(ts++(zn (s.data.toList.drop p) line).1,(zn (s.data.toList.drop p) line).2)) (hgap:gapN (s.data.toList.drop p)=0)
include hp hlp htl hO hb hsc hgap
theorem ref_tok{W:World}(k:Int)(a:ByteArray)(d:one (s.data.toList.drop p)=some (k,a.data.toList))(c:Below wr.heap.size wr W)(w1:World)(e:Value)
 (m:w1.ownsRow w.heap.size 57 3 e (ts.length+1) (qk ts++[.int .i64 k,.string a,.int .i64 line])) (j:W.grownBy w1 ov.ownBlock):
 RefRel w s e (.int .i64 line) (.int .i64 ((p:Int)+a.size)) w1:=by
 obtain⟨n,f,g⟩:=one_take d;rw[List.length_drop,<-Lib.size_eq,<-Lib.size_eq]at g;rw[<-Lib.size_eq]at f;have b:Below w.heap.size w W:=hb.trans (c.mono hb.size);have i:vF W w.heap.size ov ts:=hO.below c;refine⟨p+a.size,line,ts++[⟨k,a.data.toList,line⟩],by go_num,rfl,I7,I7,by rw[List.length_append];simp;omega,?_,b.grown j b.size (fun k l=>(qP i k l).2),?_⟩
 .unfold vF
  rw[tokCells_snoc,List.length_append,Lib.mk_data];exact m
 .rw[hsc,scan_one hgap d,List.drop_drop,<-Lib.size_eq]
  simp
omit hlp htl hO in
theorem ref_bad(c:one (s.data.toList.drop p)=none)(w1:World)(a:Below wr.heap.size wr w1):ko w s.data.toList (.returned (.tuple #[.slice none 0 0,.int .i64 20,.int .i64 (line:Int)])) w1:=by
 have b:s.data.toList.drop p≠[]:=by rw[ju s p hp];simp
 have e:zn s.data.toList 1=(ts,some line):=by rw[hsc,scan_bad hgap b c];simp
 unfold ko;rw[e];exact⟨hb.trans (a.mono hb.size),rfl⟩
end
theorem rtokens_any(s:ByteArray)(w:World)(am:s.size<=100000):Calls Tryz.prog 26 #[.string s] w (ko w s.data.toList):=by
 have bg:decide ((100000 :Int)<s.size)=false:=I9
 go_enter Tryz.func26,Tryz.ntmps26;go_wp2
 go_loopw [5,6,7] (fun ov aA A wr=>RefRel w s ov aA A wr) (fun _ _ A _=>s.size-(intOf A).toNat)
 case atStart=>exact⟨0,1,[],rfl,rfl,Nat.zero_le _,I7,Nat.zero_le _,vF.nil _ _,Below.refl _ _,rfl⟩
 case round=>
  obtain⟨p,line,ts,rfl,rfl,hp,hlp,htl,hO,hb,aO⟩:=hrel;have F:=hid hO;have B:=hid aO;clear hO aO;obtain⟨a,rfl⟩:∃a:World,a=wr:=⟨_,rfl⟩
  by_cases u:p<s.size
  .have a6:(p:Int)<s.size:=by omega
   go_upto_block 2 with(fail)
   go_cut [9] (fun aB x=>a.alloc (.cells #[.int .i64 0,.string ⟨#[]⟩,.int .i64 line] 57)=x/\∃n:Nat,p+n<=s.size/\aB=.int .i64 n/\kU (s.data.toList.drop p)=n)
   case first=>
    go_wp2_with (fail)
    go_loopg [9] s.size (fun g aB x=>a.alloc (.cells #[.int .i64 0,.string ⟨#[]⟩,.int .i64 line] 57)=x/\∃n:Nat,p+n<=s.size/\g=s.size-n/\aB=.int .i64 n/\∀(j:Nat) b,j<n->(s.data.toList.drop p)[j]? =some b->qO b=true)
    case atStart=>exact⟨rfl,0,I7,rfl,rfl,fun j b aq=>absurd aq I7⟩
    case round=>
     obtain⟨rfl,n,ar,rfl,rfl,P⟩:=hrel;have D:=hid P;clear P;by_cases C:p+n<s.size
     .obtain⟨c,I⟩:∃c:Int,(s[p+n].toNat:Int)=c:=⟨_,rfl⟩
      have aZ:=byte_at s (p+n) C ((p:Int)+n) c I7 I;obtain⟨L,H⟩:∃b,vI c=b:=⟨_,rfl⟩
      obtain⟨M,l⟩:∃b,ua c=b:=⟨_,rfl⟩
      have aD:Hid (qO s[p+n]=(L || M)):=by unfold Hid qO;rw[<-H,<-l,<-I,zAe,zAf]
      have o:=hid H;have f:=hid l;clear H l I;cases L <;> cases M
      all_goals
       go_wp2_with (first|(go_at_call 47;(with_reducible refine(qq _ _ o.out _).mono ?_);rintro e w' ⟨rfl,rfl⟩)|(go_at_call 48;(with_reducible refine(rdigit_is _ _ f.out _).mono ?_);rintro e w' ⟨rfl,rfl⟩))
      .go_meet
       exact⟨rfl,n,ar,rfl,span_drop I7 D.out (fun _=>aD.out)⟩
      all_goals
       go_roundg (s.size-(n+1))
       case measure=>omega
       case rel=>exact⟨rfl,n+1,I7,rfl,by go_num,drop_step C D.out aD.out⟩
     .go_wp2
      go_meet
      exact⟨rfl,n,ar,rfl,span_drop I7 D.out (fun J=>absurd J C)⟩
   case rest=>
    obtain⟨rfl,n,ar,rfl,aP⟩:=hcut;have al:=hid aP;clear aP
    go_upto_block 4 with(fail)
    go_cut [6,7] (fun aA A x=>aA=.int .i64 line/\A=.int .i64 p/\∃(k:Int) (v:ByteArray),gapN (s.data.toList.drop p)=0/\one (s.data.toList.drop p)=some (k,v.data.toList)/\Is x a.heap.size 57 #[.int .i64 k,.string v,.int .i64 line]/\Below a.heap.size a x)
    case first=>
     obtain⟨c,I⟩:∃c:Int,(s[p].toNat:Int)=c:=⟨_,rfl⟩
     have aZ:=byte_at s p u (p:Int) c rfl I;have y:=hid I;clear I;by_cases aa:c=10
     .subst aa
      go_wp2;go_roundw
      case rel=>exact ref_nl u hlp htl F.out hb B.out _ (by have:=y.out;omega)
      case measure=>simp[intOf];omega
     by_cases ad:c=32\/c=9\/c=13
     .have aC:Hid (xf s[p]=true/\s[p].toNat≠10):=isBlk_of (by rw[y.out];exact ad)
      rcases ad with rfl|rfl|rfl
      all_goals
       go_wp2;go_roundw
       case rel=>exact ref_blk u hlp htl F.out hb B.out _ aC.out.1 aC.out.2
       case measure=>simp[intOf];omega
     have a1:(c == 10)=false:=by simpa using aa
     have a3:(c == 32)=false:=I9
     have a4:(c == 9)=false:=I9
     have a2:(c == 13)=false:=I9
     by_cases Q:c=47/\∃J:p+1<s.size,(s[p+1].toNat:Int)=47
     .obtain⟨rfl,J,an⟩:=Q
      have aL:=byte_at s (p+1) J ((p:Int)+1) 47 I7 an;have bk:(p:Int)+1<s.size:=I7
      have aS:=hid (com_prefix s p J y.out an);clear an aa ad a1 a3 a4 a2
      go_upto_block 5 with(fail)
      go_cut [7] (fun A x=>a.alloc (.cells #[.int .i64 0,.string ⟨#[]⟩,.int .i64 line] 57)=x/\∃q:Nat,p<q/\q<=s.size/\A=.int .i64 q/\((s.data.toList.drop p).takeWhile (fun d=>d.toNat != 10)).length=q-p)
      case first=>
       go_wp2_with (fail)
       go_loopg [7] (s.size-p) (fun g A x=>a.alloc (.cells #[.int .i64 0,.string ⟨#[]⟩,.int .i64 line] 57)=x/\∃q:Nat,p<=q/\q<=s.size/\g=s.size-q/\A=.int .i64 q/\∀(j:Nat) b,j<q-p->(s.data.toList.drop p)[j]? =some b->(b.toNat != 10)=true)
       case atStart=>exact⟨rfl,p,Nat.le_refl _,hp,rfl,rfl,fun j b aq=>absurd aq I7⟩
       case round=>
        obtain⟨rfl,q,ah,N,rfl,rfl,P⟩:=hrel;have D:=hid P;clear P;by_cases C:q<s.size
        .obtain⟨d,ap⟩:∃d:Int,(s[q].toNat:Int)=d:=⟨_,rfl⟩
         have bj:=byte_at s q C (q:Int) d rfl ap;have ai:=hid ap;clear ap;by_cases aJ:d=10
         .subst aJ
          have a5:p<q:=by
           rcases Nat.lt_or_ge p q with am|am
           .exact am
           .obtain rfl:p=q:=by omega
            have bf:=y.out;have aV:=ai.out;omega
          go_wp2
          go_meet
          exact⟨rfl,q,a5,N,rfl,com_done ah N D.out (fun _=>by have:=ai.out;omega)⟩
         .have bh:(d != 10)=true:=by simpa using aJ
          go_wp2
          go_roundg (s.size-(q+1))
          case measure=>omega
          case rel=>exact⟨rfl,q+1,I7,C,rfl,by go_num,com_step ah C D.out (by have:=ai.out;omega)⟩
        .go_wp2
         go_meet
         exact⟨rfl,q,I7,N,rfl,com_done ah N D.out (fun J=>absurd J C)⟩
      case rest=>
       obtain⟨rfl,q,ah,N,rfl,aR⟩:=hcut;have aU:=hid aR;clear aR;go_wp2;go_roundw
       case rel=>exact ref_com hlp htl F.out hb B.out _ q N I7 aS.out aU.out
       case measure=>simp[intOf];omega
     .have m:=hid (gap_none s p u (blk_none (by rw[y.out];exact aa) (by rw[y.out];exact ad)) (by rw[y.out];exact Q))
      by_cases Y:0<n
      .have aM:(c == 47)=false:=by
        have Z:=span_head u al.out Y;rw[Bool.eq_false_iff];intro e;have aV:=y.out;simp at e;simp[qO,isLet,jv]at Z;omega
       obtain⟨L,H⟩:∃b,vI c=b:=⟨_,rfl⟩
       obtain⟨M,l⟩:∃b,xC (s.extract p (p+n)).data.toList=b:=⟨_,rfl⟩
       obtain⟨aI,ao⟩:∃b,(M=false->(if L then kQ (s.extract p (p+n)).data.toList else kT (s.extract p (p+n)).data.toList)=b):=⟨_,fun _=>rfl⟩
       have i:=hid (one_word u al.out Y L M aI (by rw[y.out];exact H) l ao);have o:=hid H;have f:=hid l;have X:=hid ao;have O:Hid ((s.extract p (p+n)).size=n):=by unfold Hid;rw[Lib.size_eq,Lib.extract_data,List.length_take,List.length_drop,<-Lib.size_eq];omega
       have aG:Hid (0<(s.extract p (p+n)).size):=by unfold Hid;rw[O.out];exact Y
       have aH:Hid ((s.extract p (p+n)).size<=281474976710656):=by unfold Hid;rw[O.out];omega
       have a7:(s.extract p (p+n)).size<=100000:=by rw[O.out];omega
       clear H l ao Q;cases L <;> cases M <;> cases aI
       .have E:Hid (kT (s.extract p (p+n)).data.toList=false):=X.out rfl
        go_wp2_with (first|(go_at_call 47;(with_reducible refine(qq _ _ o.out _).mono ?_);rintro e w' ⟨rfl,rfl⟩)|(go_at_call 49;(with_reducible refine(kb _ _ f.out _).mono ?_);rintro e w' ⟨rfl,rfl⟩)|(go_at_call 51;(with_reducible refine(rnumber_all _ _ aG.out aH.out _ E.out).mono ?_);rintro e w' ⟨rfl,rfl⟩))
        go_ret3
        exact ref_bad u hb B.out m.out i.out _ (Zb.alloc Zr _)
       .have E:Hid (kT (s.extract p (p+n)).data.toList=true):=X.out rfl
        go_wp2_with (first|(go_at_call 47;(with_reducible refine(qq _ _ o.out _).mono ?_);rintro e w' ⟨rfl,rfl⟩)|(go_at_call 49;(with_reducible refine(kb _ _ f.out _).mono ?_);rintro e w' ⟨rfl,rfl⟩)|(go_at_call 51;(with_reducible refine(rnumber_all _ _ aG.out aH.out _ E.out).mono ?_);rintro e w' ⟨rfl,rfl⟩))
        exact OM
       .go_wp2_with (first|(go_at_call 47;(with_reducible refine(qq _ _ o.out _).mono ?_);rintro e w' ⟨rfl,rfl⟩)|(go_at_call 49;(with_reducible refine(kb _ _ f.out _).mono ?_);rintro e w' ⟨rfl,rfl⟩))
        exact OM
       .go_wp2_with (first|(go_at_call 47;(with_reducible refine(qq _ _ o.out _).mono ?_);rintro e w' ⟨rfl,rfl⟩)|(go_at_call 49;(with_reducible refine(kb _ _ f.out _).mono ?_);rintro e w' ⟨rfl,rfl⟩))
        exact OM
       .have E:Hid (kQ (s.extract p (p+n)).data.toList=false):=X.out rfl
        go_wp2_with (first|(go_at_call 47;(with_reducible refine(qq _ _ o.out _).mono ?_);rintro e w' ⟨rfl,rfl⟩)|(go_at_call 49;(with_reducible refine(kb _ _ f.out _).mono ?_);rintro e w' ⟨rfl,rfl⟩)|(go_at_call 50;(with_reducible refine(rname_is _ _ E.out _).mono ?_);rintro e w' ⟨rfl,rfl⟩))
        go_ret3
        exact ref_bad u hb B.out m.out i.out _ (Zb.alloc Zr _)
       .have E:Hid (kQ (s.extract p (p+n)).data.toList=true):=X.out rfl
        go_wp2_with (first|(go_at_call 47;(with_reducible refine(qq _ _ o.out _).mono ?_);rintro e w' ⟨rfl,rfl⟩)|(go_at_call 49;(with_reducible refine(kb _ _ f.out _).mono ?_);rintro e w' ⟨rfl,rfl⟩)|(go_at_call 50;(with_reducible refine(rname_is _ _ E.out _).mono ?_);rintro e w' ⟨rfl,rfl⟩))
        exact OM
       .go_wp2_with (first|(go_at_call 47;(with_reducible refine(qq _ _ o.out _).mono ?_);rintro e w' ⟨rfl,rfl⟩)|(go_at_call 49;(with_reducible refine(kb _ _ f.out _).mono ?_);rintro e w' ⟨rfl,rfl⟩))
        exact OM
       .go_wp2_with (first|(go_at_call 47;(with_reducible refine(qq _ _ o.out _).mono ?_);rintro e w' ⟨rfl,rfl⟩)|(go_at_call 49;(with_reducible refine(kb _ _ f.out _).mono ?_);rintro e w' ⟨rfl,rfl⟩))
        exact OM
      .obtain⟨t,aw⟩:∃t:ByteArray,(⟨(xM (s.extract p s.size).data.toList).toArray⟩:ByteArray)=t:=⟨_,rfl⟩
       have aF:=hid aw;have aQ:t.data.toList=xM (s.data.toList.drop p):=by rw[<-aw,Lib.extract_to_end]
       have a0:n=0:=I7
       subst a0;have aE:Hid (one (s.data.toList.drop p)=if t.data.toList≠[]then some (2,t.data.toList)else none):=by unfold Hid;rw[one_sign al.out,<-aQ]
       clear aw aQ Y;by_cases ax:t.size=0
       .have af:=xj t ax
        have aY:t.toList.isEmpty=true:=by rw[Lib.toList_data,af];rfl
        have bi:t.toList=[]:=by rw[Lib.toList_data,af]
        have i:Hid (one (s.data.toList.drop p)=none):=by unfold Hid;rw[aE.out,af];rfl
        clear af ax;have ay:(c == 47)=false\/(c=47/\decide ((p:Int)+1<s.size)=false)\/(c=47/\∃d:Int,(d == 47)=false/\(p:Int)+1<s.size/\∀w,(Instr.index 9 (.string s) (.int .i64 ((p:Int)+1))).run Tryz.prog w=.ok (.int .u8 d) w):=com_ways s p c Q;rcases ay with aM|⟨rfl,av⟩|⟨rfl,d,aX,av,aL⟩
        all_goals
         go_wp2_with (go_at_call 52;(with_reducible refine(rsign_is _ _ aF.out _).mono ?_);rintro e K ⟨rfl,l⟩;have r:=hid (Is.below (heap_alloc_new a (.cells #[.int .i64 0,.string ⟨#[]⟩,.int .i64 line] 57)) l Ia);have a8:K.cell? ⟨a.heap.size,0,none⟩=some (.int .i64 0):=(r.out.cell 0).trans rfl;have a9:K.cell? ⟨a.heap.size,1,none⟩=some (.string ⟨#[]⟩):=(r.out.cell 1).trans rfl;have aW:=r.out.frozen 0;have f1:=r.out.frozen 1;have f:Hid (Below a.heap.size a K):=(Zb.alloc Zr _).trans (l.mono Ia))
         go_ret3
         exact ref_bad u hb B.out m.out i.out _ ((f.out.setCell (p:=⟨a.heap.size,0,none⟩) Zr _).setCell (p:=⟨a.heap.size,1,none⟩) Zr _)
       .have au:=jS t I7
        have aY:t.toList.isEmpty=false:=by rw[Lib.toList_data];simpa using au
        have i:Hid (one (s.data.toList.drop p)=some (2,t.data.toList)):=by unfold Hid;rw[aE.out,if_pos au]
        clear au ax;have ay:(c == 47)=false\/(c=47/\decide ((p:Int)+1<s.size)=false)\/(c=47/\∃d:Int,(d == 47)=false/\(p:Int)+1<s.size/\∀w,(Instr.index 9 (.string s) (.int .i64 ((p:Int)+1))).run Tryz.prog w=.ok (.int .u8 d) w):=com_ways s p c Q;rcases ay with aM|⟨rfl,av⟩|⟨rfl,d,aX,av,aL⟩
        all_goals
         go_wp2_with (go_at_call 52;(with_reducible refine(rsign_is _ _ aF.out _).mono ?_);rintro e K ⟨rfl,l⟩;have r:=hid (Is.below (heap_alloc_new a (.cells #[.int .i64 0,.string ⟨#[]⟩,.int .i64 line] 57)) l Ia);have a8:K.cell? ⟨a.heap.size,0,none⟩=some (.int .i64 0):=(r.out.cell 0).trans rfl;have a9:K.cell? ⟨a.heap.size,1,none⟩=some (.string ⟨#[]⟩):=(r.out.cell 1).trans rfl;have aW:=r.out.frozen 0;have f1:=r.out.frozen 1;have f:Hid (Below a.heap.size a K):=(Zb.alloc Zr _).trans (l.mono Ia))
         go_meet
         exact⟨rfl,rfl,2,t,m.out,i.out,(r.out.set 0 _).set 1 _,(f.out.setCell (p:=⟨a.heap.size,0,none⟩) Zr _).setCell (p:=⟨a.heap.size,1,none⟩) Zr _⟩
    case rest=>
     obtain⟨rfl,rfl,k,v,aK,ag,ab,ae⟩:=hcut;have m:=hid aK;clear aK;have bc:wc.cell? ⟨a.heap.size,0,none⟩=some (.int .i64 k):=(ab.cell 0).trans rfl;have bd:wc.cell? ⟨a.heap.size,1,none⟩=some (.string v):=(ab.cell 1).trans rfl;have be:wc.cell? ⟨a.heap.size,2,none⟩=some (.int .i64 line):=(ab.cell 2).trans rfl
     have a7:v.size<=100000:=by
      have:=(one_take ag).2.2;rw[List.length_drop,<-Lib.size_eq,<-Lib.size_eq]at this;omega
     have O:Hid (0<v.size/\p+v.size<=s.size):=by
      have Z:=(one_take ag).2;rw[List.length_drop,<-Lib.size_eq,<-Lib.size_eq]at Z;exact⟨Z.1,I7⟩
     have i:=hid ag;have G:=hid (app_pre wc w.heap.size u5 ts k v line (F.out.below ae) (Nat.le_trans hb.size ae.size));obtain⟨az,S,U,V,W⟩:=info_parts tok_info;have z:=hid (And.intro S (And.intro U (And.intro V W)));clear ag ab S U V W;go_wp2_with (at_builtin;refine wpList_append_own _ rfl (.tmp 158) (.tmp 160) _ rfl w.heap.size 57 az _ 3 32 Tryz.underlying49 z.out.1 z.out.2.1 z.out.2.2.1 z.out.2.2.2 rfl I7 u5 ts.length (qk ts) rfl (by exact G.out.1) ⟨wc.heap.size,0,none⟩ 1 1 [.int .i64 k,.string v,.int .i64 line] rfl rfl (by exact G.out.2.1) Ig If I7 (by exact G.out.2.2) ?_;intro ba bb T R _;have ak:=hid T;have aj:=hid R;clear T R);go_roundw
     case rel=>exact ref_tok u hlp htl F.out hb B.out m.out k v i.out (ae.trans (Zb.alloc Zr _ |>.mono ae.size)) _ _ ak.out aj.out
     case measure=>
      have bl:=O.out;simp only[intOf];omega
  .have aN:p=s.size:=by omega
   have a6:decide ((p:Int)<s.size)=false:=I9
   have G:=hid (app_pre a w.heap.size u5 ts 3 ⟨#[]⟩ line F.out hb.size);obtain⟨az,S,U,V,W⟩:=info_parts tok_info;have z:=hid (And.intro S (And.intro U (And.intro V W)));have aT:=hid aN;clear S U V W aN;go_wp2_with (at_builtin;refine wpList_append_own _ rfl (.tmp 162) (.tmp 165) _ rfl w.heap.size 57 az _ 3 32 Tryz.underlying49 z.out.1 z.out.2.1 z.out.2.2.1 z.out.2.2.2 rfl I7 u5 ts.length (qk ts) rfl (by exact G.out.1) ⟨a.heap.size,0,none⟩ 1 1 [.int .i64 3,.string ⟨#[]⟩,.int .i64 line] rfl rfl (by exact G.out.2.1) Ig If I7 (by exact G.out.2.2) ?_;intro ba bb T R _;have ak:=hid T;have aj:=hid R;clear T R)
   go_ret3
   exact ref_end aT.out hb B.out F.out ak.out aj.out
def yJ(R:Pr × Int × Nat)(w:World)(e:Ending)(w':World):Prop:=
 Below w.heap.size w w'/\∃a b,e=.returned (.tuple #[.agg #[a,b],.int .i64 R.2.1,.int .i64 (R.2.2:Int)])/\SlA w'.heap.size (mask (low w.heap.size) w') a R.1.arrays/\SlF w'.heap.size (mask (low w.heap.size) w') b R.1.funcs
theorem slF_nil(B:Nat)(w:World):SlF B w (.slice none 0 0) []:=⟨none,0,rfl,Nat.zero_le _,fun h=>absurd h Ia⟩
theorem mask_sub{p:Nat->Bool}{B:Nat}{w:World}:∀g o u,CellB B (mask p w) g o u->CellB B w g o u:=fun _ _ _ h=>(jJ h).2
theorem FrG.tree{L:Nat}{w:World}{a:Pr}{v:Value}(d:FrG L w a v):∃b c,v=.agg #[b,c]/\SlA w.heap.size w b a.arrays/\SlF w.heap.size w c a.funcs:=by
 obtain⟨b,c,g,e,f⟩:=d;exact⟨b,c,g,e.imp mask_sub,f.imp mask_sub⟩
theorem off_below{b B C:Nat}{w w':World}(a:OffB b B w w')(c:C<=B)(hb:C<=b):Below C w w':=by
 have g:Below B (hole b w) (hole b w'):=a;exact⟨g.os,g.tape,g.output,a.size,fun k d=>a.block I7 I7⟩
theorem box_new{w:World}{v:Value}{ts:List Tok}{B:Nat}(k:vF w B v ts)(d:zk ts)(n:ts.length<=1000000)(e:∀t∈ts,t.kind=0->kT t.text=true/\t.text.length<=281474976710656):
 jI w.heap.size v ts (.ok () ts) (w.alloc (.cells #[v,.int .i64 0,.bool false,.bool false] 54)):=by
 rcases k.2 with⟨rfl,a⟩|⟨g,i,o,rfl,p,c,q,r,s,l⟩
 .exact absurd a (by have:=d.pos;omega)
 .have m:g<w.heap.size:=(Array.getElem?_eq_some_iff.1 c).1
  refine⟨?_,⟨g,i,rfl,I7,I9,fun j u b=>?_,n,fun t f a=>⟨(e t f a).1,?_⟩⟩,List.suffix_refl _,d⟩
  .rw[Nat.sub_self]
   exact heap_alloc_new w _
  .rw[Lib.cell_of_heap ((Below.heap_alloc w _ g m).trans c)]
   rw[<-l,List.getElem?_take]at b;split at b
   .simpa using b
   .cases b
  .rw[Lib.size_eq]
   exact(e t f a).2
def Rb(w W:World):Prop:=Below w.heap.size w W/\W.heap[w.heap.size]? =some yE
theorem Rb.start(w:World):Rb w (w.alloc yE):=⟨Zb.alloc Zr _,heap_alloc_new w yE⟩
section
variable {w W W':World}
theorem Rb.lt(h:Rb w W):w.heap.size<W.heap.size:=(Array.getElem?_eq_some_iff.1 h.2).1
theorem Rb.below(h:Rb w W)(hb:Below W.heap.size W W'):Rb w W':=⟨h.1.trans (hb.mono h.1.size),(hb.block _ h.lt).trans h.2⟩
theorem Rb.off{b B:Nat}(a:Rb w W)(c:OffB b B W W')(d:w.heap.size<B)(hb:w.heap.size<b):Rb w W':=⟨a.1.trans (off_below c I7 I7),q9 c d I7 a.2⟩
theorem Rb.alloc(h:Rb w W)(o:Obj):Rb w (W.alloc o):=h.below (Zb.alloc Zr o)
theorem Rb.drew(h:Rb w W):Rb w W.drew:=h.below Zb.drew
theorem Rb.own(h:Rb w W):(W.cell? ⟨w.heap.size,0,none⟩=some (.slice none 0 0)/\W.cell? ⟨w.heap.size,1,none⟩=some (.slice none 0 0))/\∀o,W.frozen? ⟨w.heap.size,o,none⟩=false:=ku h.2
theorem Rb.read(b:Rb w W)(a c1:Value):((W.setCell ⟨w.heap.size,0,none⟩ a).setCell ⟨w.heap.size,1,none⟩ c1).cell? ⟨w.heap.size,0,none⟩=some a/\((W.setCell ⟨w.heap.size,0,none⟩ a).setCell ⟨w.heap.size,1,none⟩ c1).cell? ⟨w.heap.size,1,none⟩=some c1:=(ku (nest2_row b.2 a c1)).1
theorem Rb.fail(b:Rb w W){R:Pr × Int × Nat}(e:Int)(a:Nat)(c:R=(pr0,e,a)):yJ R w (.returned (.tuple #[.agg #[.slice Option.none 0 0,.slice Option.none 0 0],.int .i64 e,.int .i64 (a:Int)])) W:=by
 subst c;exact⟨b.1,_,_,rfl,slA_nil _ _,slF_nil _ _⟩
theorem Rb.nest(c:Rb w W)(a b:Value):Below w.heap.size w (vA W w.heap.size a b):=(c.1.setCell (p:=⟨w.heap.size,0,Option.none⟩) Zr _).setCell (p:=⟨w.heap.size,1,Option.none⟩) Zr _
theorem Rb.failn(d:Rb w W){R:Pr × Int × Nat}(e:Int)(c:Nat)(f:R=(pr0,e,c))(a b:Value):yJ R w (.returned (.tuple #[.agg #[.slice Option.none 0 0,.slice Option.none 0 0],.int .i64 e,.int .i64 (c:Int)])) (vA W w.heap.size a b):=by
 subst f;exact⟨d.nest a b,_,_,rfl,slA_nil _ _,slF_nil _ _⟩
theorem FrG.keep{L b:Nat}{a:Pr}{v:Value}(d:FrG L W a v)(k:zK L W W')(c:b<=L):FrG b W' a v:=by
 obtain⟨i,j,g,e,f⟩:=d;exact⟨i,j,g,e.imp (k.cells c),f.imp (k.cells c)⟩
theorem Rb.give(e:Rb w W){R:Pr × Int × Nat}{p:Pr}{a b:Value}(k:R=(p,0,0)){L:Nat}(j:FrG L W p (.agg #[a,b]))(c:w.heap.size<L):yJ R w (.returned (.tuple #[.agg #[a,b],.int .i64 0,.int .i64 ((0 :Nat):Int)])) (vA W w.heap.size a b):=by
 subst k;obtain⟨u0,u1,d,f,i⟩:=j.keep (zK.nest2 (g:=w.heap.size) c a b) (Nat.le_of_lt c);simp only[Value.agg.injEq,Array.mk.injEq,List.cons.injEq,and_true]at d;obtain⟨rfl,rfl⟩:=d;exact⟨e.nest _ _,_,_,rfl,f,i⟩
end
theorem rparse_long(s:ByteArray)(w:World)(a:100000<s.size):Calls Tryz.prog 13 #[.string s] w (yJ (jf s) w):=by
 rw[docP_long a];have c:=hid a;have b:=hid (Rb.start w);clear a;go_enter Tryz.func13,Tryz.ntmps13;go_wp2_with (go_at_call 26;(with_reducible refine(rtokens_long s _ c.out).mono ?_);rintro e i ⟨rfl,rfl⟩);obtain⟨⟨d,f⟩,g⟩:=b.out.own;refine bodyPost_ret (v:=.tuple #[.agg #[.slice none 0 0,.slice none 0 0],.int .i64 2,.int .i64 ((0 :Nat):Int)]) (by simp[results,Tryz.results13,go_sem,d,f]) rfl ?_;exact b.out.fail 2 0 rfl
theorem rtokens_no(s:ByteArray)(w:World)(b:s.size<=100000){a:Nat}(c:(zn s.data.toList 1).2=some a):Calls Tryz.prog 26 #[.string s] w fun e w'=>e=.returned (.tuple #[.slice none 0 0,.int .i64 20,.int .i64 (a:Int)])/\Below w.heap.size w w':=
 (rtokens_any s w b).mono fun e w' hp=>by
   unfold ko at hp;rw[c]at hp;exact⟨hp.2,hp.1⟩
theorem vB(s:ByteArray)(w:World)(a:s.size<=100000){ts:List Tok}(f:zn s.data.toList 1=(ts,none)):Calls Tryz.prog 26 #[.string s] w fun e w'=>∃v,e=.returned (.tuple #[v,.int .i64 0,.int .i64 0])/\vF w' w.heap.size v ts/\Below w.heap.size w w':=
 (rtokens_any s w a).mono fun e w' hp=>by
   unfold ko at hp;rw[f]at hp;obtain⟨b,v,c,d⟩:=hp;exact⟨v,c,d,b⟩
theorem rparse_no(s:ByteArray)(w:World)(b:s.size<=100000){d:Nat}(c:(zn s.data.toList 1).2=some d):Calls Tryz.prog 13 #[.string s] w (yJ (jf s) w):=by
 rw[docP_no b c];have f:=hid b;have g:=hid c;have a:=hid (Rb.start w);clear b c;go_enter Tryz.func13,Tryz.ntmps13
 go_wp2_with (go_at_call 26;(with_reducible refine(rtokens_no s _ f.out g.out).mono ?_);rintro e l ⟨rfl,hb⟩
              replace a:=hid (a.out.below hb);obtain⟨⟨i,j⟩,k⟩:=a.out.own
              clear hb)
 refine bodyPost_ret (v:=.tuple #[.agg #[.slice none 0 0,.slice none 0 0],.int .i64 20,.int .i64 (d:Int)]) (by simp[results,Tryz.results13,go_sem,i,j]) rfl ?_;exact a.out.failn 20 d rfl _ _
theorem box_go{s:ByteArray}{W:World}{v:Value}{ts:List Tok}{B:Nat}(e:vF W B v ts)(c:zn s.data.toList 1=(ts,none))(g:s.size<=100000):jI W.heap.size v ts (.ok () ts) (W.alloc (.cells #[v,.int .i64 0,.bool false,.bool false] 54)):=by
 have i:s.size=s.data.toList.length:=rfl;obtain⟨b,f⟩:=vR _ _ _ _ Zr c;exact box_new e (jb _ _ _ _ Zr c) I7 fun t d a=>⟨(b t d a).1,by have:=(b t d a).2;omega⟩
theorem toks_form{w:World}{B:Nat}{v:Value}{ts:List Tok}(h:vF w B v ts):∃A c,v=.slice A ts.length c:=zU h
theorem right_go{L:Nat}{W:World}{p:Pr}{b d:Value}{c:Bool}{o:Obj}(f:FrG L W p (.agg #[b,d]))(j:prOK p=c):Calls Tryz.prog 28 #[.agg #[b,d]] (W.alloc o) fun e w'=>e=.returned (.bool c)/\Below (W.alloc o).heap.size (W.alloc o) w':=by
 obtain⟨u0,u1,a,g,i⟩:=(f.keep (zK.of_below (L:=L) (Zb.alloc Zr o)) Zr).tree;simp only[Value.agg.injEq,Array.mk.injEq,List.cons.injEq,and_true]at a;obtain⟨rfl,rfl⟩:=a;exact rright_any _ p c j _ _ _ Zr g i
theorem rparse_ok(s:ByteArray)(w:World)(F:s.size<=100000){ts:List Tok}(D:zn s.data.toList 1=(ts,none)){p:Pr}{r:List Tok}(hp:jl ts=.ok p r):Calls Tryz.prog 13 #[.string s] w (yJ (jf s) w):=by
 obtain⟨c,G⟩:∃c,prOK p=c:=⟨_,rfl⟩
 have N:jf s=if c=true then(p,0,0)else(pr0,2,0):=by
  rw[uu F D];unfold docT;rw[hp,<-G]
 have I:=hid (show zG ((PR.ok () ts).bind fun _ r=>pPr (20*ts.length+40) ⟨[],[]⟩ r)from xi (jb _ _ _ _ Zr D));have B:=hid hp;have H:=hid G;have A:=hid F;have C:=hid D;have d:=hid (Rb.start w);have K:=hid N;clear F D hp G N;cases c
 case false=>
  go_enter Tryz.func13,Tryz.ntmps13
  go_wp2_with (first
   | (go_at_call 26;(with_reducible refine(vB s _ A.out C.out).mono ?_);rintro e b ⟨v,rfl,k,hb⟩
      obtain⟨f,i,rfl⟩:=toks_form k;have E:=hid k;replace d:=hid (d.out.below hb)
      clear hb k)
   | (go_at_call 27;(with_reducible refine(prog_any (box_go E.out C.out A.out) I.out).mono ?_);rintro e w3 ⟨v,rfl,j,x⟩
      have l:zW b.heap.size (.slice f ts.length i) ts r false false w3:=by
       exact OO
      have g:=hid (show FrG (b.alloc (.cells #[.slice f ts.length i,.int .i64 0,.bool false,.bool false] 54)).heap.size w3 p v by
       have a:qy (jl ts) _:=x;rw[B.out]at a
       exact a)
      obtain⟨aa,ab,rfl,t,u⟩:=g.out;obtain⟨n,y,rfl,_⟩:=t.form;obtain⟨o,z,rfl,_⟩:=u.form;obtain⟨O,P,Q,R⟩:=l.cells;have V:=d.out.lt;have q:=hid ((d.out.alloc _).off j.off I9 I7);have U:b.heap.size<w3.heap.size:=l.lt;have W:=q.out.lt
      clear j x l t u)
   | (go_at_call 28;(with_reducible refine(right_go g.out H.out).mono ?_);rintro e ad ⟨rfl,hb⟩
      have J:=hid (g.out.keep ((zK.of_below (Zb.alloc Zr _)).trans (zK.of_below hb)) Zr);have m:=hid ((q.out.alloc _).below hb);obtain⟨⟨X,Y⟩,Z⟩:=ku ((hb.block _ Ia).trans (heap_alloc_new w3 (.cells #[.slice n p.arrays.length y,.slice o p.funcs.length z] 27)));obtain⟨⟨L,M⟩,T⟩:=m.out.own
      clear hb))
  refine bodyPost_ret (v:=.tuple #[.agg #[.slice none 0 0,.slice none 0 0],.int .i64 2,.int .i64 ((0 :Nat):Int)]) (by simp[results,Tryz.results13,go_sem,L,M]) rfl ?_;exact m.out.failn 2 0 (by rw[K.out];rfl) _ _
 case true=>
  go_enter Tryz.func13,Tryz.ntmps13
  go_wp2_with (first
   | (go_at_call 26;(with_reducible refine(vB s _ A.out C.out).mono ?_);rintro e b ⟨v,rfl,k,hb⟩
      obtain⟨f,i,rfl⟩:=toks_form k;have E:=hid k;replace d:=hid (d.out.below hb)
      clear hb k)
   | (go_at_call 27;(with_reducible refine(prog_any (box_go E.out C.out A.out) I.out).mono ?_);rintro e w3 ⟨v,rfl,j,x⟩
      have l:zW b.heap.size (.slice f ts.length i) ts r false false w3:=by
       exact OO
      have g:=hid (show FrG (b.alloc (.cells #[.slice f ts.length i,.int .i64 0,.bool false,.bool false] 54)).heap.size w3 p v by
       have a:qy (jl ts) _:=x;rw[B.out]at a
       exact a)
      obtain⟨aa,ab,rfl,t,u⟩:=g.out;obtain⟨n,y,rfl,_⟩:=t.form;obtain⟨o,z,rfl,_⟩:=u.form;obtain⟨O,P,Q,R⟩:=l.cells;have V:=d.out.lt;have q:=hid ((d.out.alloc _).off j.off I9 I7);have U:b.heap.size<w3.heap.size:=l.lt;have W:=q.out.lt
      clear j x l t u)
   | (go_at_call 28;(with_reducible refine(right_go g.out H.out).mono ?_);rintro e ad ⟨rfl,hb⟩
      have J:=hid (g.out.keep ((zK.of_below (Zb.alloc Zr _)).trans (zK.of_below hb)) Zr);have m:=hid ((q.out.alloc _).below hb);obtain⟨⟨X,Y⟩,Z⟩:=ku ((hb.block _ Ia).trans (heap_alloc_new w3 (.cells #[.slice n p.arrays.length y,.slice o p.funcs.length z] 27)));obtain⟨⟨L,M⟩,T⟩:=m.out.own
      clear hb))
  obtain⟨S,f1⟩:=m.out.read (.slice n p.arrays.length y) (.slice o p.funcs.length z);refine bodyPost_ret (v:=.tuple #[.agg #[.slice n p.arrays.length y,.slice o p.funcs.length z],.int .i64 0,.int .i64 ((0 :Nat):Int)]) (by simp[results,Tryz.results13,go_sem,S,f1]) rfl ?_;exact m.out.give (by rw[K.out];rfl) J.out I9
theorem rparse_bad(s:ByteArray)(w:World)(x:s.size<=100000){ts:List Tok}(l:zn s.data.toList 1=(ts,none)){r:List Tok}(hp:jl ts=.bad r):Calls Tryz.prog 13 #[.string s] w (yJ (jf s) w):=by
 have I:jf s=(pr0,20,hdL r):=by
  rw[uu x l];unfold docT;rw[hp]
 have L:=hid (show zG ((PR.ok () ts).bind fun _ r=>pPr (20*ts.length+40) ⟨[],[]⟩ r)from xi (jb _ _ _ _ Zr l));have D:=hid hp;have C:=hid x;have E:=hid l;have d:=hid (Rb.start w);have N:=hid I;clear x l hp I;go_enter Tryz.func13,Tryz.ntmps13
 go_wp2_with (first
  | (go_at_call 26;(with_reducible refine(vB s _ C.out E.out).mono ?_);rintro e b ⟨v,rfl,z,hb⟩
     obtain⟨m,u,rfl⟩:=toks_form z;have p:=hid z;replace d:=hid (d.out.below hb)
     clear hb z)
  | (go_at_call 27;(with_reducible refine(prog_any (box_go p.out E.out C.out) L.out).mono ?_);rintro e w3 ⟨v,rfl,y,H⟩
     have j:zW b.heap.size (.slice m ts.length u) ts r true false w3:=by
      exact OP
     have R:∃a,FrG (b.alloc (.cells #[.slice m ts.length u,.int .i64 0,.bool false,.bool false] 54)).heap.size w3 a v:=by
      have c:qy (jl ts) _:=H;rw[D.out]at c;exact c
     obtain⟨a,az,aA,rfl,F,G⟩:=R;obtain⟨n,A,rfl,_⟩:=F.form;obtain⟨o,B,rfl,_⟩:=G.form;obtain⟨g,ah,k,t,q,S,J,Y,ao,ap,aa,O,ab,ad,ax,ay,K⟩:=j.tok;injection S with T _ U;subst T U
     have V:g≠b.heap.size/\g<w3.heap.size/\g≠w.heap.size:=by
      exact ON
     obtain⟨al,W,X⟩:=V;have am:w.heap.size≠g:=fun e=>X e.symm
     have M:=hid (show(t.line:Int)=(hdL r:Int)by rw[J];rfl);have ar:=d.out.lt;have f:=hid (((d.out.alloc _).off y.off I9 I7).alloc (.cells #[.slice n a.arrays.length A,.slice o a.funcs.length B] 27));obtain⟨⟨af,ag⟩,ai⟩:=f.out.own;have Q:b.heap.size<w3.heap.size:=j.lt;have an:(k:Int)<ts.length:=I7
     have au:=f.out.lt;have aq:w.heap.size≠b.heap.size:=I7
     clear y H j F G J Y))
 have av:(w3.alloc (.cells #[.slice n a.arrays.length A,.slice o a.funcs.length B] 27)).cell? ⟨b.heap.size,1,none⟩=some (.int .i64 (k:Int)):=by rw[World.cell?_alloc_past _ _ _ Q];exact O
 have aw:(w3.alloc (.cells #[.slice n a.arrays.length A,.slice o a.funcs.length B] 27)).cell? ⟨g,k*3+2,none⟩=some (.int .i64 (t.line:Int)):=by rw[World.cell?_alloc_past _ _ _ W];exact K
 go_region_held3 (fun w'=>w'.cell? ⟨b.heap.size,1,none⟩=some (.int .i64 (k:Int))/\w'.cell? ⟨g,k*3+2,none⟩=some (.int .i64 (t.line:Int)))
  (go_keep)
  (fail)
 all_goals
  go_wp2_with (fail);obtain⟨P,f1⟩:=f.out.read (.slice none 0 0) (.slice none 0 0);refine bodyPost_ret (v:=.tuple #[.agg #[.slice none 0 0,.slice none 0 0],.int .i64 20,.int .i64 ((hdL r:Nat):Int)]) (by rw[<-M.out];simp[results,Tryz.results13,go_sem,P,f1]) rfl ?_;exact f.out.drew.failn 20 (hdL r) N.out _ _
theorem rparse_deep(s:ByteArray)(w:World)(x:s.size<=100000){ts:List Tok}(l:zn s.data.toList 1=(ts,none)){r:List Tok}(hp:jl ts=.deep r):Calls Tryz.prog 13 #[.string s] w (yJ (jf s) w):=by
 have I:jf s=(pr0,2,hdL r):=by
  rw[uu x l];unfold docT;rw[hp]
 have L:=hid (show zG ((PR.ok () ts).bind fun _ r=>pPr (20*ts.length+40) ⟨[],[]⟩ r)from xi (jb _ _ _ _ Zr l));have D:=hid hp;have C:=hid x;have E:=hid l;have d:=hid (Rb.start w);have N:=hid I;clear x l hp I;go_enter Tryz.func13,Tryz.ntmps13
 go_wp2_with (first
  | (go_at_call 26;(with_reducible refine(vB s _ C.out E.out).mono ?_);rintro e b ⟨v,rfl,z,hb⟩
     obtain⟨m,u,rfl⟩:=toks_form z;have p:=hid z;replace d:=hid (d.out.below hb)
     clear hb z)
  | (go_at_call 27;(with_reducible refine(prog_any (box_go p.out E.out C.out) L.out).mono ?_);rintro e w3 ⟨v,rfl,y,H⟩
     have j:zW b.heap.size (.slice m ts.length u) ts r false true w3:=by
      exact OP
     have R:∃a,FrG (b.alloc (.cells #[.slice m ts.length u,.int .i64 0,.bool false,.bool false] 54)).heap.size w3 a v:=by
      have c:qy (jl ts) _:=H;rw[D.out]at c;exact c
     obtain⟨a,az,aA,rfl,F,G⟩:=R;obtain⟨n,A,rfl,_⟩:=F.form;obtain⟨o,B,rfl,_⟩:=G.form;obtain⟨g,ah,k,t,q,S,J,Y,ao,ap,aa,O,ab,ad,ax,ay,K⟩:=j.tok;injection S with T _ U;subst T U
     have V:g≠b.heap.size/\g<w3.heap.size/\g≠w.heap.size:=by
      exact ON
     obtain⟨al,W,X⟩:=V;have am:w.heap.size≠g:=fun e=>X e.symm
     have M:=hid (show(t.line:Int)=(hdL r:Int)by rw[J];rfl);have ar:=d.out.lt;have f:=hid (((d.out.alloc _).off y.off I9 I7).alloc (.cells #[.slice n a.arrays.length A,.slice o a.funcs.length B] 27));obtain⟨⟨af,ag⟩,ai⟩:=f.out.own;have Q:b.heap.size<w3.heap.size:=j.lt;have an:(k:Int)<ts.length:=I7
     have au:=f.out.lt;have aq:w.heap.size≠b.heap.size:=I7
     clear y H j F G J Y))
 have av:(w3.alloc (.cells #[.slice n a.arrays.length A,.slice o a.funcs.length B] 27)).cell? ⟨b.heap.size,1,none⟩=some (.int .i64 (k:Int)):=by rw[World.cell?_alloc_past _ _ _ Q];exact O
 have aw:(w3.alloc (.cells #[.slice n a.arrays.length A,.slice o a.funcs.length B] 27)).cell? ⟨g,k*3+2,none⟩=some (.int .i64 (t.line:Int)):=by rw[World.cell?_alloc_past _ _ _ W];exact K
 go_region_held3 (fun w'=>w'.cell? ⟨b.heap.size,1,none⟩=some (.int .i64 (k:Int))/\w'.cell? ⟨g,k*3+2,none⟩=some (.int .i64 (t.line:Int)))
  (go_keep)
  (fail)
 all_goals
  go_wp2_with (fail);obtain⟨P,f1⟩:=f.out.read (.slice none 0 0) (.slice none 0 0);refine bodyPost_ret (v:=.tuple #[.agg #[.slice none 0 0,.slice none 0 0],.int .i64 2,.int .i64 ((hdL r:Nat):Int)]) (by rw[<-M.out];simp[results,Tryz.results13,go_sem,P,f1]) rfl ?_;exact f.out.drew.failn 2 (hdL r) N.out _ _
theorem rparse_any(s:ByteArray)(w:World):Calls Tryz.prog 13 #[.string s] w (yJ (jf s) w):=by
 by_cases c:100000<s.size
 .exact rparse_long s w c
 .cases hs:(zn s.data.toList 1).2 with
  | some d=>exact rparse_no s w I7 hs
  | none=>
    have a:=scan_none hs;cases hp:jl (zn s.data.toList 1).1 with
    | ok p r=>exact rparse_ok s w I7 a hp
    | bad r=>exact rparse_bad s w I7 a hp
    | deep r=>exact rparse_deep s w I7 a hp
    | out=>
      have b:=xi (jb _ _ _ _ Zr a);rw[hp]at b;exact absurd b id
structure Laid6 (B:Nat) (p:Pr) (v0 v1:Value) (w:World):Prop where
 hB:B<=w.heap.size
 tab:TreeTab B w
 ha:SlA B w v0 p.arrays
 hf:SlF B w v1 p.funcs
theorem Laid6.below{B:Nat}{p:Pr}{b c:Value}{w w':World}(a:Laid6 B p b c w)(hb:Below w.heap.size w w'):Laid6 B p b c w':=⟨Nat.le_trans a.hB hb.size,a.tab.below (hb.mono a.hB),a.ha.below (hb.mono a.hB) Zr,a.hf.below (hb.mono a.hB) Zr⟩
theorem Laid6.mono{B a:Nat}{p:Pr}{d e:Value}{w:World}(b:Laid6 B p d e w)(c:B<=a)(f:a<=w.heap.size):Laid6 a p d e w:=⟨f,b.tab.mono c,b.ha.below Zb c,b.hf.below Zb c⟩
theorem frg_laid{L:Nat}{w:World}{p:Pr}{c d:Value}(e:FrG L w p (.agg #[c,d])):SlA w.heap.size w c p.arrays/\SlF w.heap.size w d p.funcs:=by
 obtain⟨u0,u1,b,f,g⟩:=e;simp only[Value.agg.injEq,Array.mk.injEq,List.cons.injEq,and_true]at b;obtain⟨rfl,rfl⟩:=b;exact⟨SlA.imp (fun _ _ _ a=>(jJ a).2) f,SlF.imp (fun _ _ _ a=>(jJ a).2) g⟩
def GotP(p:Pr)(e:Int)(f:Nat)(w:World)(x:Ending)(w':World):Prop:=
 ∃a c b d,x=.returned (.tuple #[.agg #[.slice a p.arrays.length c,.slice b p.funcs.length d],.int .i64 e,.int .i64 (f:Int)])/\Below w.heap.size w w'/\Laid6 w'.heap.size p (.slice a p.arrays.length c) (.slice b p.funcs.length d) w'
theorem parse_got6{B:Nat}{w:World}(s:ByteArray)(m:TreeTab B w)(c:B<=w.heap.size){p:Pr}{e:Int}{f:Nat}(l:jf s=(p,e,f)):Calls Tryz.prog 13 #[.string s] w (GotP p e f w):=
 (rparse_any s w).mono fun x w' ⟨hb,n,o,d,a,b⟩=>by
   rw[l]at d a b;replace a:=SlA.imp mask_sub a;replace b:=SlF.imp mask_sub b;obtain⟨g,j,rfl,_⟩:=a.form;obtain⟨i,k,rfl,_⟩:=b.form;exact⟨g,j,i,k,d,hb,Nat.le_refl _,(m.below (hb.mono c)).mono (Nat.le_trans c hb.size),a,b⟩
theorem small0:Small pr0:=⟨by kernel_rfl,⟨fun a c=>Q9,fun f b=>IB⟩,Nat.zero_le _,Nat.zero_le _,fun f b=>IB,fun f b=>IB⟩
theorem laid0{B:Nat}{w:World}(c:TreeTab B w)(b:B<=w.heap.size):Laid6 B pr0 (.slice none 0 0) (.slice none 0 0) w:=⟨b,c,slA_nil _ _,⟨none,0,rfl,Nat.zero_le _,fun a=>absurd a (by simp[pr0])⟩⟩
theorem v8{s:ByteArray}{p:Pr}{k:Int}{c:Nat}(a:jf s=(p,k,c)):Small p:=by
 by_cases b:k=0
 .subst b;exact small_any a
 .rw[docP_bad6 a b];exact small0
theorem Laid6.box{w:World}{q:Pr}{a b:Option Addr}{e c n1 d:Nat}(f:Laid6 w.heap.size q (.slice a e c) (.slice b n1 d) w):Below w.heap.size w (w.alloc (jT a e c b n1 d))/\(w.alloc (jT a e c b n1 d)).heap[w.heap.size]? =some (jT a e c b n1 d)/\(w.alloc (jT a e c b n1 d)).heap.size=w.heap.size+1/\Laid6 w.heap.size q (.slice a e c) (.slice b n1 d) (w.alloc (jT a e c b n1 d)):=by
 have hb:Below w.heap.size w (w.alloc (jT a e c b n1 d)):=Zb.alloc Zr _;exact⟨hb,heap_alloc_new w _,zA _ _,f.below hb⟩
end Go.Proofs.YthcmenajdcbnnaaGreatDoor
namespace Go.Proofs.YthcmenajdcbnnaaGreatDoor
open Lib (hid)
open Go.RowKit Go.Maps
def endSt(c:Option Int)(t:RS):Int:=match c with
 | some _=>1
 | none=>t.stat
def endCo(c:Option Int):Int:=match c with
 | some n=>n
 | none=>0
theorem evTell_end{r:Res yL}:evTell r=(endSt (endC r).1 (endC r).2,endCo (endC r).1,(endC r).2.out,(endC r).2.cost,(endC r).2.fuel):=by
 cases r with
 | ok h s=>rfl
 | fin s=>rfl
theorem enV_is(c:Option Int)(t:RS):enV c t=.agg #[.int .i64 (endSt c t),.int .i64 (endCo c)]:=by cases c <;> rfl
theorem xu(B:Nat)(p:Pr)(b:List Int)(o:Int)(aX aY aZ:Value)(w:World)(bj:Laid6 B p aX aY w)(aT:Small p)(aL:∀f∈p.funcs,lenTs f.body 0<=1000000000)(W:SlC B w aZ b)(aI:AllR64 b)(bx:o<=1000000)(bA: -9223372036854775808<=o):
 Calls Tryz.prog 17 #[.agg #[aX,aY],aZ,.int .i64 o] w fun e w'=>∃ai,e=.returned (runA ai (zZ p b o))/\RunO w.heap.size w' ai (zZ p b o)/\Below w.heap.size w w':=by
 obtain⟨D,aU,Q,U⟩:=bj;obtain⟨c,i,rfl,_⟩:=Q.form;obtain⟨d,j,rfl,_⟩:=U.form;obtain⟨a3,bi,rfl,bF⟩:=W.1.form;obtain⟨⟨K,m,n⟩,aB⟩:∃R,vD p=R:=⟨_,rfl⟩
 have aW:Below w.heap.size w ((w.alloc (jT c p.arrays.length i d p.funcs.length j)).alloc (reO 0 0 (.slice none 0 0) 0 0)):=(Zb.alloc Zr _).alloc Ic _;have ab:((w.alloc (jT c p.arrays.length i d p.funcs.length j)).alloc (reO 0 0 (.slice none 0 0) 0 0)).heap.size=w.heap.size+2:=by rw[zA,zA]
 have aa:((w.alloc (jT c p.arrays.length i d p.funcs.length j)).alloc (reO 0 0 (.slice none 0 0) 0 0)).heap[w.heap.size]? =some (jT c p.arrays.length i d p.funcs.length j):=qE (heap_alloc_new w _) _;have aS:((w.alloc (jT c p.arrays.length i d p.funcs.length j)).alloc (reO 0 0 (.slice none 0 0) 0 0)).heap[w.heap.size+1]? =some (reO 0 0 (.slice none 0 0) 0 0):=by have:=heap_alloc_new (w.alloc (jT c p.arrays.length i d p.funcs.length j)) (reO 0 0 (.slice none 0 0) 0 0);rw[zA]at this;exact this
 have ax:=hid aU;have ak:=hid Q;have ao:=hid U;have J:=hid aT;have I:=hid aB;have ar:=hid W;have a6:=hid aI;have a7:=hid aL;clear aU Q U aT aB W aI aL;go_enter Tryz.func17,Tryz.ntmps17;go_upto_region 1 with(fail);generalize(w.alloc (.cells #[.slice c p.arrays.length i,.slice d p.funcs.length j] 27)).alloc (.cells #[.int .i64 0,.int .i64 0,.slice none 0 0,.int .i64 0,.int .i64 0] 35)=WA at *;have bL:=Nat.le_of_eq ab;have bM:=Nat.le_of_eq ab.symm;clear ab;obtain⟨⟨bf,bg⟩,bh⟩:=zO aa;have bJ:w.heap.size<WA.heap.size:=I7
 have y:=hid aW;have be:=hid aa;have aw:=hid aS;clear aW aa aS;have an:=hid (check_any B p (K,m,n) (.slice c p.arrays.length i) (.slice d p.funcs.length j) WA (ax.out.below (y.out.mono D)) I7 (ak.out.below (y.out.mono D) Zr) (ao.out.below (y.out.mono D) Zr) J.out.sz J.out.n1 J.out.n2 I.out);by_cases N:K=0
 case neg=>
  have bD:(K != 0)=true:=by simpa using N
  have q:(vD p).1≠0:=by rw[I.out];exact N
  go_upto_region 2 with(go_at_call 31;(with_reducible refine(an.out).mono ?_);rintro e aj ⟨rfl,a⟩
                        have C:=hid (y.out.trans ((a.alloc IZ (.cells #[.int .i64 (m:Int),.int .i64 (W64 n)] 62)).mono I7));have s:=hid (qE ((a.block (w.heap.size+1) I7).trans aw.out) (.cells #[.int .i64 (m:Int),.int .i64 (W64 n)] 62))
                        clear a)
  generalize aj.alloc (.cells #[.int .i64 (m:Int),.int .i64 (W64 n)] 62)=W1 at *;obtain⟨⟨bq,br,bs,bt,bu⟩,bv⟩:=zP s.out;have aK:w.heap.size+1<W1.heap.size:=zB s.out;go_wp2_with (fail);have P:=five_set s.out (.int .i64 0) (.int .i64 0) (.slice none 0 0) (.int .i64 0) (.int .i64 0);have O:=five_below (g:=w.heap.size+1) (show Below w.heap.size w W1 from C.out) I7 (.int .i64 0) (.int .i64 0) (.slice none 0 0) (.int .i64 0) (.int .i64 0);obtain⟨⟨ad,ae,af,ag,ah⟩,_⟩:=zP P;refine bodyPost_ret (v:=.agg #[.int .i64 0,.int .i64 0,.slice none 0 0,.int .i64 0,.int .i64 0]) (by simp[results,Tryz.results17,go_sem,ad,ae,af,ag,ah]) rfl ?_;rw[yV q];exact⟨_,rfl,⟨World.ownsRow_nil _ _ _ _,Nat.zero_le _⟩,O⟩
 case pos=>
  subst N;have q:(vD p).1=0:=by rw[I.out]
  obtain⟨aR,bl,M,E,V⟩:=yj q;obtain⟨F,hF⟩:∃F:Nat,o.toNat=F:=⟨_,rfl⟩
  have bC:max o 0=(F:Int):=by rw[<-hF];omega
  have aA:F<=1000000:=I7
  have H:=xc q E b o;rw[hF,evTell_end]at H;have Y:=run_to q E V b aA;have aq:=hid (fun_ok q a7.out);have ap:=hid (And.intro E (show M.params.length=0 by rw[V];rfl));have ba:=hid aR;obtain⟨L,aG⟩:∃x,x=(endC (qw (j9 p F) [] M.body (jt p b F))).1:=⟨_,rfl⟩
  obtain⟨t,aV⟩:∃x,x=(endC (qw (j9 p F) [] M.body (jt p b F))).2:=⟨_,rfl⟩
  rw[<-aG,<-aV]at H Y;have aH:=enV_is L t;generalize endSt L t=st at *;generalize endCo L=code at *;have bc:=hid H;have bd:=hid Y;have a5:=hid aH;clear H Y aH;clear q aR bl E V aG aV hF
  go_upto_region 4 with(go_at_call 31;(with_reducible refine(an.out).mono ?_);rintro e aj ⟨rfl,a⟩
                        have C:=hid (y.out.trans ((a.alloc IZ (.cells #[.int .i64 (m:Int),.int .i64 (W64 n)] 62)).mono I7));have s:=hid (qE ((a.block (w.heap.size+1) I7).trans aw.out) (.cells #[.int .i64 (m:Int),.int .i64 (W64 n)] 62));have ay:=hid (qE ((a.block w.heap.size I7).trans be.out) (.cells #[.int .i64 (m:Int),.int .i64 (W64 n)] 62))
                        clear a)
  generalize aj.alloc (.cells #[.int .i64 (m:Int),.int .i64 (W64 n)] 62)=W1 at *;clear bf bg bh;obtain⟨⟨a0,a1⟩,a2⟩:=zO ay.out;have bz:w.heap.size<W1.heap.size:=zB ay.out;have aK:w.heap.size+1<W1.heap.size:=zB s.out;have z:=C.out.mono D;have a9:=hid (wnew_any p (.slice c p.arrays.length i) (.slice d p.funcs.length j) (.slice a3 b.length bi) b F W1 (ak.out.below z I7) (ao.out.below z I7) (ar.out.below z I7) aq.out)
  go_upto_region 5 with(go_at_call 32;(with_reducible refine(a9.out).mono ?_);rintro e bR ⟨rfl,bw,bO,bS,bp,aN,aM,rfl⟩
                        have X:=mw_start rfl aN aM aq.out ((ax.out.below z).mono I7) ba.out (ar.out.below z I7) a6.out aA;have am:=hid X.2;have a4:=hid (mend_any X.1 rfl ap.out.1 ap.out.2 I7 bd.out)
                        clear aN aM X)
  generalize bp.setCell ⟨W1.heap.size+1+1+1,9,none⟩ (.int .i64 (F:Int))=W2 at *;clear a0 a1 a2
  go_upto_region 6 with(go_at_call 33;(with_reducible refine(a4.out).mono ?_);rintro e l ⟨rfl,⟨bP,bQ,bN,ai,T,Z,aO,aP⟩,S⟩
                        rw[a5.out];obtain⟨r,u,rfl⟩:=zU Z;have aC:Below W1.heap.size W1 (l.alloc (.cells #[.int .i64 st,.int .i64 code] 68)):=(am.out.trans S).alloc (by have:=(am.out.trans S).size;omega) _;have al:=hid aC;have a8:=hid (heap_alloc_new l (.cells #[.int .i64 st,.int .i64 code] 68));have az:=hid (qE T (.cells #[.int .i64 st,.int .i64 code] 68));have av:=hid (qR Z ((Below.refl l.heap.size l).alloc Zr (.cells #[.int .i64 st,.int .i64 code] 68)) Zr);have bK:(l.alloc (.cells #[.int .i64 st,.int .i64 code] 68)).heap.size=l.heap.size+1:=zA _ _;have aD:=zB T;have au:=hid (And.intro aO aP)
                        clear T Z S aC aO aP)
  generalize l.alloc (.cells #[.int .i64 st,.int .i64 code] 68)=W4 at *;obtain⟨⟨a0,a1⟩,a2⟩:=zO a8.out;obtain⟨⟨bT,bU,bV,bW,bX,bY,bZ,b0,b1,b2⟩,b3⟩:=zI az.out;have G:=(al.out.block (w.heap.size+1) aK).trans s.out;obtain⟨⟨bq,br,bs,bt,bu⟩,bv⟩:=zP G;have bG:l.heap.size<W4.heap.size:=I7
  have bH:W1.heap.size+1+1+1<W4.heap.size:=by show _<_;have aD:W1.heap.size+1+1+1<l.heap.size:=aD;omega
  have bI:w.heap.size+1<W4.heap.size:=zB G;have bb:=hid G;clear G;go_wp2_with (fail)
  go_region
  all_goals
   go_wp2_with (fail)
  have aF:W1.heap.size+1+1+1≠w.heap.size+1:=I7
  have aE:w.heap.size<=W1.heap.size+1+1+1:=I7
  have bn:(Value.slice r t.out.length u).ownBlock≠some (W1.heap.size+1+1+1):=vu av.out (show Is W4 (W1.heap.size+1+1+1) 74 _ from az.out) I8
  have bo:((W4.setCell ⟨W1.heap.size+1+1+1,5,none⟩ (.int .i64 st)).setCell ⟨W1.heap.size+1+1+1,6,none⟩ (.int .i64 code)).heap[w.heap.size+1]? =some (reO 0 0 (.slice none 0 0) 0 0):=
   (Below.heap_setCell _ ⟨W1.heap.size+1+1+1,6,none⟩ _ _ aF.symm).trans ((Below.heap_setCell _ ⟨W1.heap.size+1+1+1,5,none⟩ _ _ aF.symm).trans bb.out)
  have bm:Below w.heap.size w ((W4.setCell ⟨W1.heap.size+1+1+1,5,none⟩ (.int .i64 st)).setCell ⟨W1.heap.size+1+1+1,6,none⟩ (.int .i64 code)):=
   ((C.out.trans (al.out.mono I7)).setCell (p:=⟨W1.heap.size+1+1+1,5,none⟩) aE _).setCell (p:=⟨W1.heap.size+1+1+1,6,none⟩) aE _
  have aQ:((W4.setCell ⟨W1.heap.size+1+1+1,5,none⟩ (.int .i64 st)).setCell ⟨W1.heap.size+1+1+1,6,none⟩ (.int .i64 code)).ownsRow W1.heap.size 3 1 (.slice r t.out.length u) t.out.length (t.out.map (Value.int .i64)):=
   zm av.out fun k A=>by
    have aJ:k≠W1.heap.size+1+1+1:=fun e=>bn (e ▸ A)
    exact(Below.heap_setCell _ ⟨W1.heap.size+1+1+1,6,none⟩ _ k aJ).trans (Below.heap_setCell _ ⟨W1.heap.size+1+1+1,5,none⟩ _ k aJ)
  generalize(W4.setCell ⟨W1.heap.size+1+1+1,5,none⟩ (.int .i64 st)).setCell ⟨W1.heap.size+1+1+1,6,none⟩ (.int .i64 code)=W7 at *;have P:=five_set bo (.int .i64 st) (.int .i64 code) (.slice r t.out.length u) (.int .i64 (t.cost:Int)) (.int .i64 (t.fuel:Int));have O:=five_below (g:=w.heap.size+1) bm I7 (.int .i64 st) (.int .i64 code) (.slice r t.out.length u) (.int .i64 (t.cost:Int)) (.int .i64 (t.fuel:Int));have bk:=fun k (A:k≠w.heap.size+1)=>five_other W7 A (.int .i64 st) (.int .i64 code) (.slice r t.out.length u) (.int .i64 (t.cost:Int)) (.int .i64 (t.fuel:Int))
  obtain⟨⟨ad,ae,af,ag,ah⟩,_⟩:=zP P;refine bodyPost_ret (v:=.agg #[.int .i64 st,.int .i64 code,.slice r t.out.length u,.int .i64 (t.cost:Int),.int .i64 (t.fuel:Int)]) (by simp[results,Tryz.results17,go_sem,ad,ae,af,ag,ah]) rfl ?_;rw[bc.out];exact⟨_,rfl,⟨(zm aQ fun k A=>bk k (by have:=(qP aQ k A).2;omega)).mono I7,(by show t.out.length<=_;have:=au.out.1;have:=au.out.2;omega)⟩,O.drew⟩
theorem zAa(B:Nat)(p:Pr)(b:List Int)(a:Int)(c d f:Value)(w:World)(l:Laid6 B p c d w)(g:Small p)(n:SlC B w f b)(o:AllR64 b)(m:a<=1000000)(q: -9223372036854775808<=a):
 Calls Tryz.prog 17 #[.agg #[c,d],f,.int .i64 a] w fun e w'=>∃v,e=.returned v/\RunV w'.heap.size w' v (zZ p b a)/\Below w.heap.size w w':=
 (xu B p b a c d f w l g g.ln n o m q).mono fun e w' ⟨r,i,j,k⟩=>⟨_,i,j.run,k⟩
end Go.Proofs.YthcmenajdcbnnaaGreatDoor
