import Derived.Test.YtfghofifjnbicaaGreatDoorAgParFl
import Derived.Test.YtfghofifjnbicaaGreatDoorAgParTot
import Derived.Test.YtfghofifjnbicaaGreatDoorAgParBlk
import Derived.Test.YtfghofifjnbicaaGreatDoorAgTyGlo
set_option linter.unusedSimpArgs false
set_option linter.unusedVariables false
set_option maxRecDepth 100000
/- Numbers of what has been parsed fit: no Go, no program. -/
namespace Go.Proofs.YtfghofifjnbicaaGreatDoor
open Lib (hid)
open Go.RowKit
def Tn (l:List Tok):Prop:=∀ t ∈ l,t.kind=0→jU 0 t.text≤9223372036854775807
theorem Tn.tail {l:List Tok} (h:Tn l):Tn l.tail:=fun t ht=>h t (List.mem_of_mem_tail ht)
theorem kindT_num {t:List UInt8} (h:kz t=some 0):jr t=true:=by
 unfold kz at h;split at h
 · injection h with h
   omega
 · split at h
   · injection h with h
     omega
   · split at h
     · rename_i hn
       exact hn
     · cases h
theorem one_num {l t:List UInt8} {k:Int} (h:one l=some (k,t)) (h0:k=0):jr t=true:=by
 subst h0;unfold one at h;split at h
 · cases hk:kz (l.takeWhile qA) with
   | none=>rw[hk]at h;cases h
   | some j=>
     rw[hk]at h;injection h with h;injection h with h1 h2;subst h1 h2;exact kindT_num hk
 · split at h
   · injection h with h
     injection h with h1 h2;omega
   · cases h
theorem y8:∀ (n:Nat) (l:List UInt8) (line:Nat) (ts:List Tok),l.length≤n→zq l line=(ts,none)→(∀ t ∈ ts,t.kind=0→jr t.text=true∧t.text.length≤l.length)∧ts.length≤l.length+1
 | _,[],line,ts,_,h=>by
   rw[zq]at h;injection h with h _;subst h;refine⟨fun t ht=>?_,by simp⟩;obtain rfl:=List.mem_singleton.1 ht;exact fun h=>(by cases h)
 | 0,c :: r,line,ts,h,_=>by simp at h
 | n+1,c :: r,line,ts,hl,h=>by
   simp only[List.length_cons]at hl ⊢;rw[zq]at h
   have grow:∀ {k:Nat},k≤r.length→((∀ t ∈ ts,t.kind=0→jr t.text=true∧t.text.length≤k)∧ts.length≤k+1)→(∀ t ∈ ts,t.kind=0→jr t.text=true∧t.text.length≤r.length+1)∧ts.length≤r.length+1+1:=fun hk ⟨g1,g2⟩=>
    ⟨fun t ht h0=>⟨(g1 t ht h0).1,by have:=(g1 t ht h0).2;omega⟩,by omega⟩
   split at h
   · exact grow (Nat.le_refl _) (y8 n r _ ts (by omega) h)
   · split at h
     · exact grow (Nat.le_refl _) (y8 n r _ ts (by omega) h)
     · split at h
       · have h1:=List.IsSuffix.length_le (List.dropWhile_suffix (l:=r) (fun d:UInt8=>d.toNat != 10))
         exact grow h1 (y8 n _ _ ts (by omega) h)
       · split at h
         · cases h
         · rename_i k t hone
           have h1:(r.drop (t.length-1)).length=r.length-(t.length-1):=List.length_drop;obtain⟨o1,o2,_⟩:=one_tk hone;rw[List.length_cons]at o2;injection h with e1 e2;obtain⟨i1,i2⟩:=y8 n (r.drop (t.length-1)) line (zq (r.drop (t.length-1)) line).1 (by omega) (by rw[←e2]);subst e1;refine⟨fun u hu=>?_,?_⟩
           · rcases List.mem_cons.1 hu with rfl | hu
             · exact fun h0=>⟨one_num hone h0,o2⟩
             · exact fun h0=>⟨(i1 u hu h0).1,by have:=(i1 u hu h0).2;omega⟩
           · rw[List.length_cons]
             omega
def hdL (l:List Tok):Nat:=match l with | t :: _=>t.line | []=>0
def pr0:Pr:=⟨[],[]⟩
def docT (ts:List Tok):Pr × Int × Nat:=
 match jj ts with
 | .ok p _=>if prOK p=true then (p,0,0) else (pr0,2,0)
 | .bad r=>(pr0,20,hdL r)
 | .deep r=>(pr0,2,hdL r)
 | .out=>(pr0,0,0)
def kf (s:ByteArray):Pr × Int × Nat:=
 if 100000<s.size then (pr0,2,0)
 else match (zq s.data.toList 1).2 with
  | some ln=>(pr0,20,ln)
  | none=>docT (zq s.data.toList 1).1
theorem docP_long {s:ByteArray} (h:100000<s.size):kf s=(pr0,2,0):=by unfold kf;rw[if_pos h]
theorem docP_no {s:ByteArray} (h:s.size≤100000) {ln:Nat} (hs:(zq s.data.toList 1).2=some ln):kf s=(pr0,20,ln):=by unfold kf;rw[if_neg (by omega),hs]
theorem vY {s:ByteArray} (h:s.size≤100000) {ts:List Tok} (hs:zq s.data.toList 1=(ts,none)):kf s=docT ts:=by unfold kf;rw[if_neg (by omega),hs]
theorem scan_none {l:List UInt8} (h:(zq l 1).2=none):zq l 1=((zq l 1).1,none):=by rw[←h]
structure Small (p:Pr):Prop where
 ok:prOK p=true
 sz:Sized p
 n1:p.arrays.length≤1000000
 n2:p.funcs.length≤1000000
 cn:∀ f ∈ p.funcs,f.params.length+cntSs f.body≤1000000000
theorem qC {α β:Type} {x:PR α} {f:α→List Tok→PR β} {b:β} {r:List Tok} (h:x.bind f=.ok b r):∃ a r1,x=.ok a r1∧f a r1=.ok b r:=by
 cases x with
 | ok a r1=>exact⟨a,r1,rfl,h⟩
 | bad r1=>cases h
 | deep r1=>cases h
 | out=>cases h
theorem jZ {α:Type} {k:Nat} {l r:List Tok} {x:PR α} {a:α} (h:zZ k l x) (e:x=.ok a r):ze r∧r.length+k≤l.length:=by
 subst e;exact h.2
theorem bsm_ok {α:Type} {x:PR α} {a:α} {r:List Tok} (h:yQ x=.ok a r):∃ r1,x=.ok a r1:=by
 obtain⟨b,r1,h1,h2⟩:=qC h;obtain⟨_,r2,_,h3⟩:=qC h2;injection h3 with h3 _;exact⟨r1,h3 ▸ h1⟩
theorem nm_leaf {n:Nat} {l r:List Tok} {s:St} (h:pNm n l=.ok s r):kS s=1:=by
 unfold pNm at h;obtain⟨_,r1,_,h⟩:=qC h;split at h
 · obtain⟨_,_,_,h⟩:=qC h
   injection h with h _;rw[←h,kS,cntSs]
 · split at h
   · obtain⟨_,_,_,h⟩:=qC h
     obtain⟨_,_,_,h⟩:=qC h;obtain⟨_,_,_,h⟩:=qC h;obtain⟨_,_,_,h⟩:=qC h;injection h with h _;rw[←h,kS,cntSs]
   · obtain⟨_,_,_,h⟩:=qC h
     obtain⟨_,_,_,h⟩:=qC h;injection h with h _;rw[←h,kS,cntSs]
theorem cnt_app:∀ (a b:List St),cntSs (a++b)=cntSs a+cntSs b
 | [],b=>by rw[List.nil_append,cntSs];omega
 | s :: r,b=>by rw[List.cons_append,cntSs,cntSs,cnt_app r b];omega
theorem cnt_stmt:∀ n:Nat,(∀ d l s r,ze l→pS n d l=.ok s r→kS s+r.length≤l.length)∧(∀ d e t l s r,ze l→pEl n d e t l=.ok s r→kS s+r.length≤l.length+1+cntSs t)∧(∀ d l b r,ze l→pB n d l=.ok b r→cntSs b+r.length≤l.length)∧(∀ d acc l b r,ze l→pBL n d acc l=.ok b r→cntSs b+r.length≤l.length+cntSs acc)
 | 0=>⟨fun d l s r _ h=>(by rw[pS]at h;cases h),fun d e t l s r _ h=>(by rw[pEl]at h;cases h),fun d l b r _ h=>(by rw[pB]at h;cases h),fun d acc l b r _ h=>(by rw[pBL]at h;cases h)⟩
 | n+1=>by
   obtain⟨iS,iE,iB,iL⟩:=cnt_stmt n;refine⟨fun d l s r hl h=>?_,fun d e t l s r hl h=>?_,fun d l b r hl h=>?_,fun d acc l b r hl h=>?_⟩
   · have hf:=(jZ (pS_fits (n:=n+1) (d:=d) hl) h).2
     rw[pS]at h;split at h
     · cases h
     split at h
     · obtain⟨r1,h⟩:=bsm_ok h
       obtain⟨_,_,_,h⟩:=qC h;obtain⟨_,_,_,h⟩:=qC h;obtain⟨_,_,_,h⟩:=qC h;obtain⟨_,_,_,h⟩:=qC h;injection h with h _;rw[←h,kS,cntSs];omega
     split at h
     · rename_i hs
       obtain⟨e,r1,h1,h⟩:=qC h;obtain⟨t,r2,h2,h⟩:=qC h;have ht:=zH.sign hl hs;obtain⟨he1,hz1⟩:=jZ (xQ ht.2.1) h1;have hb:=iB _ _ _ _ he1 h2;have he2:=(jZ (vi he1) h2).1;have:=iE _ _ _ _ _ _ he2 h;have:=ht.2.2;omega
     split at h
     · rename_i hs
       obtain⟨e,r1,h1,h⟩:=qC h;obtain⟨t,r2,h2,h⟩:=qC h;have ht:=zH.sign hl hs;obtain⟨he1,hz1⟩:=jZ (xQ ht.2.1) h1;have hb:=iB _ _ _ _ he1 h2;injection h with h h3;have:=ht.2.2;rw[←h,←h3,kS,cntSs];omega
     split at h
     · obtain⟨r1,h⟩:=bsm_ok h
       injection h with h _;rw[←h,kS,cntSs];omega
     split at h
     · obtain⟨r1,h⟩:=bsm_ok h
       injection h with h _;rw[←h,kS,cntSs];omega
     split at h
     · obtain⟨r1,h⟩:=bsm_ok h
       obtain⟨_,_,_,h⟩:=qC h;injection h with h _;rw[←h,kS,cntSs];omega
     split at h
     · obtain⟨r1,h⟩:=bsm_ok h
       obtain⟨_,_,_,h⟩:=qC h;injection h with h _;rw[←h,kS,cntSs];omega
     · obtain⟨r1,h⟩:=bsm_ok h
       have:=nm_leaf h;omega
   · rw[pEl]at h
     split at h
     · rename_i hs
       obtain⟨u,r1,h1,h⟩:=qC h;have ht:=zH.sign hl hs;have:=iB _ _ _ _ ht.2.1 h1;have:=ht.2.2;injection h with h h3;rw[←h,←h3,kS];omega
     · injection h with h h3
       rw[←h,←h3,kS,cntSs];omega
   · rw[pB]at h
     obtain⟨_,r1,h1,h⟩:=qC h;obtain⟨he,hz⟩:=jZ (zJ hl _) h1;have:=iL _ _ _ _ _ he h;rw[cntSs]at this;omega
   · rw[pBL]at h
     split at h
     · rename_i hs
       have ht:=(zH.sign hl hs).2.2;injection h with h h3;rw[←h,←h3];omega
     · obtain⟨s,r1,h1,h⟩:=qC h
       have h2:=iS _ _ _ _ hl h1;have he:=(jZ (pS_fits hl) h1).1;have h3:=iL _ _ _ _ _ he h;rw[cnt_app,cntSs,cntSs]at h3;omega
theorem cnt_pars:∀ (n:Nat) (acc:List Pa) (l:List Tok) (ps:List Pa) (r:List Tok),ze l→pPL n acc l=.ok ps r→ps.length+r.length≤l.length+acc.length
 | 0,acc,l,ps,r,_,h=>by rw[pPL]at h;cases h
 | n+1,acc,l,ps,r,hl,h=>by
   rw[pPL]at h;obtain⟨t,r1,h1,h⟩:=qC h;obtain⟨he1,hz1⟩:=jZ (kU hl) h1;obtain⟨s,r2,h2,h⟩:=qC h;obtain⟨he2,hz2⟩:=jZ (qZ he1 1 (by decide)) h2;split at h
   · rename_i hs
     have ht:=zH.sign he2 hs;have h3:=cnt_pars n _ _ _ _ ht.2.1 h;have:=ht.2.2;rw[List.length_append,List.length_singleton]at h3;omega
   · obtain⟨_,r3,h3,h⟩:=qC h
     obtain⟨_,hz3⟩:=jZ (zJ he2 _) h3;injection h with h h4;rw[←h,←h4,List.length_append,List.length_singleton];omega
theorem cnt_fn {n:Nat} {t:Int} {s:ByteArray} {l r:List Tok} {f:Fu} (hl:ze l) (h:pFn n t s l=.ok f r):f.params.length+cntSs f.body+r.length≤l.length:=by
 unfold pFn at h;obtain⟨ps,r1,h1,h⟩:=qC h;have he1:=(jZ (pPs_fits hl) h1).1;obtain⟨b,r2,h2,h⟩:=qC h;have h3:=(cnt_stmt n).2.2.1 _ _ _ _ he1 h2
 have h4:ps.length+r1.length≤l.length:=by
  unfold pPs at h1;obtain⟨_,r3,h5,h1⟩:=qC h1;obtain⟨he3,hz3⟩:=jZ (zJ hl _) h5;split at h1
  · rename_i hs
    have:=(zH.sign he3 hs).2.2;injection h1 with h1 h6;rw[←h1,←h6,List.length_nil];omega
  · have:=cnt_pars _ _ _ _ _ he3 h1
    rw[List.length_nil]at this;omega
 injection h with h h5;rw[←h,←h5];show ps.length+cntSs b+r2.length≤l.length;omega
def uD:List Fu→Nat
 | []=>0
 | f :: r=>1+f.params.length+cntSs f.body+uD r
theorem cntF_app:∀ (a b:List Fu),uD (a++b)=uD a+uD b
 | [],b=>by rw[List.nil_append,uD];omega
 | s :: r,b=>by rw[List.cons_append,uD,uD,cntF_app r b];omega
theorem cntF_len:∀ l:List Fu,l.length≤uD l
 | []=>Nat.zero_le _
 | f :: r=>by have:=cntF_len r;rw[uD,List.length_cons];omega
theorem cntF_mem:∀ {l:List Fu} {f:Fu},f ∈ l→f.params.length+cntSs f.body≤uD l
 | g :: r,f,h=>by
   rw[uD];rcases List.mem_cons.1 h with rfl | h
   · omega
   · have:=cntF_mem h;omega
theorem cnt_prog:∀ (n:Nat) (p:Pr) (l:List Tok) (q:Pr) (r:List Tok),ze l→u7 n p l=.ok q r→q.arrays.length+uD q.funcs+r.length≤l.length+p.arrays.length+uD p.funcs
 | 0,p,l,q,r,_,h=>by rw[u7]at h;cases h
 | n+1,p,l,q,r,hl,h=>by
   rw[u7]at h;split at h
   · injection h with h h1
     rw[←h,←h1];omega
   · obtain⟨t,r1,h1,h⟩:=qC h
     obtain⟨he1,hz1⟩:=jZ (kU hl) h1;obtain⟨s,r2,h2,h⟩:=qC h;obtain⟨he2,hz2⟩:=jZ (qZ he1 1 (by decide)) h2;split at h
     · rename_i hs
       have ht:=zH.sign he2 hs.2.2;obtain⟨a,r3,h3,h⟩:=qC h;obtain⟨he3,hz3⟩:=jZ (pArr_fits ht.2.1) h3;have h4:=cnt_prog n _ _ _ _ he3 h;have:=ht.2.2;dsimp only at h4;rw[List.length_append,List.length_singleton]at h4;omega
     · obtain⟨f,r3,h3,h⟩:=qC h
       have h5:=cnt_fn he2 h3;have he3:=(jZ (vK he2) h3).1;have h4:=cnt_prog n _ _ _ _ he3 h;dsimp only at h4;rw[cntF_app,uD,uD]at h4;omega
theorem nmB_20 {s:ByteArray} (h:yw s=true):s.size≤maxLen:=by
 unfold yw jh at h;simp only[Bool.and_eq_true,decide_eq_true_eq]at h;have h1:s.size≤20:=by simpa using h.1.1.1.2
 unfold maxLen;omega
theorem sized_ok {p:Pr} (h:prOK p=true):Sized p:=by
 unfold prOK at h;rw[Bool.and_eq_true]at h;refine⟨fun a ha=>?_,fun f hf=>?_⟩
 · have h1:=List.all_eq_true.1 h.1 a ha
   unfold yN at h1;rw[Bool.and_eq_true]at h1;exact nmB_20 h1.1
 · have h1:=List.all_eq_true.1 h.2 f hf
   unfold ke at h1;simp only[Bool.and_eq_true]at h1;refine⟨nmB_20 h1.1.1.1.1,fun x hx=>?_⟩;have h2:=List.all_eq_true.1 h1.1.2 x hx;unfold y9 at h2;rw[Bool.and_eq_true]at h2;exact nmB_20 h2.1
theorem docP_ok6 {s:ByteArray} {p:Pr} {ln:Nat} (h:kf s=(p,0,ln)):s.size≤100000∧∃ ts r,zq s.data.toList 1=(ts,none)∧jj ts=.ok p r∧prOK p=true:=by
 by_cases hs:100000<s.size
 · rw[docP_long hs]at h
   simp at h
 · cases hn:(zq s.data.toList 1).2 with
   | some l=>
     rw[docP_no (by omega) hn]at h;simp at h
   | none=>
     have h2:=scan_none hn;rw[vY (by omega) h2]at h;unfold docT at h;cases hp:jj (zq s.data.toList 1).1 with
     | ok q r=>
       rw[hp]at h;dsimp only at h;split at h
       · rename_i hq
         have e:q=p:=congrArg Prod.fst h;subst e;exact⟨by omega,_,r,h2,hp,hq⟩
       · simp at h
     | bad r=>rw[hp]at h;simp at h
     | deep r=>rw[hp]at h;simp at h
     | out=>
       have x:=xA (jR _ _ _ _ (Nat.le_refl _) h2);rw[hp]at x;exact x.elim
theorem docP_bad6 {s:ByteArray} {p:Pr} {k:Int} {ln:Nat} (h:kf s=(p,k,ln)) (hk:k≠0):p=pr0:=by
 by_cases hs:100000<s.size
 · rw[docP_long hs]at h
   exact(congrArg Prod.fst h).symm
 · cases hn:(zq s.data.toList 1).2 with
   | some l=>
     rw[docP_no (by omega) hn]at h;exact(congrArg Prod.fst h).symm
   | none=>
     have h2:=scan_none hn;rw[vY (by omega) h2]at h;unfold docT at h;cases hp:jj (zq s.data.toList 1).1 with
     | ok q r=>
       rw[hp]at h;dsimp only at h;split at h
       · exact absurd (congrArg (fun x=>x.2.1) h).symm hk
       · exact(congrArg Prod.fst h).symm
     | bad r=>rw[hp]at h;exact(congrArg Prod.fst h).symm
     | deep r=>rw[hp]at h;exact(congrArg Prod.fst h).symm
     | out=>rw[hp]at h;exact(congrArg Prod.fst h).symm
theorem small_any {s:ByteArray} {p:Pr} {ln:Nat} (h:kf s=(p,0,ln)):Small p:=by
 obtain⟨hs,ts,r,h1,h2,h3⟩:=docP_ok6 h;have hE:=jR _ _ _ _ (Nat.le_refl _) h1;have hl:=(y8 _ _ _ _ (Nat.le_refl _) h1).2;have hz:s.data.toList.length=s.size:=by simp
 have hc:=cnt_prog _ _ _ _ _ hE h2;rw[uD]at hc;have hn:([]:List Ar).length=0:=rfl;have hlen:=cntF_len p.funcs;refine⟨h3,sized_ok h3,?_,?_,fun f hf=>?_⟩
 · simp at hc;omega
 · simp at hc;omega
 · have:=cntF_mem hf;simp at hc;omega
end Go.Proofs.YtfghofifjnbicaaGreatDoor
