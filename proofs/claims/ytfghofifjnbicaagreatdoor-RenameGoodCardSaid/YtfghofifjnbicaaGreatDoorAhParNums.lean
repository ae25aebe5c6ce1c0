import Derived.Test.YtfghofifjnbicaaGreatDoorAhZed
import Derived.Test.YtfghofifjnbicaaGreatDoorAhParFl
import Derived.Test.YtfghofifjnbicaaGreatDoorAhParTot
import Derived.Test.YtfghofifjnbicaaGreatDoorAhParBlk
import Derived.Test.YtfghofifjnbicaaGreatDoorAhTyGlo
import Derived.Test.YtfghofifjnbicaaGreatDoorAhParFn
set_option linter.unusedSimpArgs false
set_option linter.unusedVariables false
set_option maxRecDepth 100000
/- What a text is parsed to, or why it is not, and at which line, as a plain function: no Go, no program. -/
namespace Go.Proofs.YtfghofifjnbicaaGreatDoor
open Lib (hid)
open Go.RowKit
theorem kindT_num {t:List UInt8} (h:kw t=some 0):jm t=true:=by
 unfold kw at h;split at h
 · injection h with h
   omega
 · split at h
   · injection h with h
     omega
   · split at h
     · rename_i hn
       exact hn
     · cases h
theorem one_num {l t:List UInt8} {k:Int} (h:one l=some (k,t)) (h0:k=0):jm t=true:=by
 subst h0;unfold one at h;split at h
 · cases hk:kw (l.takeWhile qH) with
   | none=>rw[hk]at h;cases h
   | some j=>
     rw[hk]at h;injection h with h;injection h with h1 h2;subst h1 h2;exact kindT_num hk
 · split at h
   · injection h with h
     injection h with h1 h2;omega
   · cases h
theorem yZ:∀ (n:Nat) (l:List UInt8) (line:Nat) (ts:List Tok),l.length≤n→zq l line=(ts,none)→(∀ t ∈ ts,t.kind=0→jm t.text=true∧t.text.length≤l.length)∧ts.length≤l.length+1
 | _,[],line,ts,_,h=>by
   rw[zq]at h;injection h with h _;subst h;refine⟨fun t ht=>?_,by simp⟩;obtain rfl:=List.mem_singleton.1 ht;exact fun h=>(by cases h)
 | 0,c :: r,line,ts,h,_=>by simp at h
 | n+1,c :: r,line,ts,hl,h=>by
   simp only[List.length_cons]at hl ⊢;rw[zq]at h
   have grow:∀ {k:Nat},k≤r.length→((∀ t ∈ ts,t.kind=0→jm t.text=true∧t.text.length≤k)∧ts.length≤k+1)→(∀ t ∈ ts,t.kind=0→jm t.text=true∧t.text.length≤r.length+1)∧ts.length≤r.length+1+1:=fun hk ⟨g1,g2⟩=>
    ⟨fun t ht h0=>⟨(g1 t ht h0).1,by have:=(g1 t ht h0).2;omega⟩,by omega⟩
   split at h
   · exact grow Zr (yZ n r _ ts (by omega) h)
   · split at h
     · exact grow Zr (yZ n r _ ts (by omega) h)
     · split at h
       · have h1:=List.IsSuffix.length_le (List.dropWhile_suffix (l:=r) (fun d:UInt8=>d.toNat != 10))
         exact grow h1 (yZ n _ _ ts (by omega) h)
       · split at h
         · cases h
         · rename_i k t hone
           have h1:(r.drop (t.length-1)).length=r.length-(t.length-1):=List.length_drop;obtain⟨o1,o2,_⟩:=one_tk hone;rw[List.length_cons]at o2;injection h with e1 e2;obtain⟨i1,i2⟩:=yZ n (r.drop (t.length-1)) line (zq (r.drop (t.length-1)) line).1 (by omega) (by rw[←e2]);subst e1;refine⟨fun u hu=>?_,?_⟩
           · rcases List.mem_cons.1 hu with rfl | hu
             · exact fun h0=>⟨one_num hone h0,o2⟩
             · exact fun h0=>⟨(i1 u hu h0).1,by have:=(i1 u hu h0).2;omega⟩
           · rw[List.length_cons]
             omega
def hdL (l:List Tok):Nat:=match l with | t :: _=>t.line | []=>0
def pr0:Pr:=⟨[],[]⟩
def docT (ts:List Tok):Pr × Int × Nat:=
 match je ts with
 | .ok p _=>if prOK p=true then (p,0,0) else (pr0,2,0)
 | .bad r=>(pr0,20,hdL r)
 | .deep r=>(pr0,2,hdL r)
 | .out=>(pr0,0,0)
def kq (s:ByteArray):Pr × Int × Nat:=
 if 100000<s.size then (pr0,2,0)
 else match (zq s.data.toList 1).2 with
  | some ln=>(pr0,20,ln)
  | none=>docT (zq s.data.toList 1).1
theorem docP_long {s:ByteArray} (h:100000<s.size):kq s=(pr0,2,0):=by unfold kq;rw[if_pos h]
theorem docP_no {s:ByteArray} (h:s.size≤100000) {ln:Nat} (hs:(zq s.data.toList 1).2=some ln):kq s=(pr0,20,ln):=by unfold kq;rw[if_neg (by omega),hs]
theorem vR {s:ByteArray} (h:s.size≤100000) {ts:List Tok} (hs:zq s.data.toList 1=(ts,none)):kq s=docT ts:=by unfold kq;rw[if_neg (by omega),hs]
theorem scan_none {l:List UInt8} (h:(zq l 1).2=none):zq l 1=((zq l 1).1,none):=by rw[←h]
structure Small (p:Pr):Prop where
 ok:prOK p=true
 sz:Sized p
 n1:p.arrays.length≤1000000
 n2:p.funcs.length≤1000000
 cn:∀ f ∈ p.funcs,f.params.length+cntSs f.body≤1000000000
theorem qB {α β:Type} {x:PR α} {f:α→List Tok→PR β} {b:β} {r:List Tok} (h:x.bind f=.ok b r):∃ a r1,x=.ok a r1∧f a r1=.ok b r:=by
 cases x with
 | ok a r1=>exact⟨a,r1,rfl,h⟩
 | bad r1=>cases h
 | deep r1=>cases h
 | out=>cases h
theorem jX {α:Type} {k:Nat} {l r:List Tok} {x:PR α} {a:α} (h:zY k l x) (e:x=.ok a r):ze r∧r.length+k≤l.length:=by
 subst e;exact h.2
theorem bsm_ok {α:Type} {x:PR α} {a:α} {r:List Tok} (h:yN x=.ok a r):∃ r1,x=.ok a r1:=by
 obtain⟨b,r1,h1,h2⟩:=qB h;obtain⟨_,r2,_,h3⟩:=qB h2;injection h3 with h3 _;exact⟨r1,h3 ▸ h1⟩
theorem nm_leaf {n:Nat} {l r:List Tok} {s:St} (h:pNm n l=.ok s r):kN s=1:=by
 unfold pNm at h;obtain⟨_,r1,_,h⟩:=qB h;split at h
 · obtain⟨_,_,_,h⟩:=qB h
   injection h with h _;rw[←h,kN,cntSs]
 · split at h
   · obtain⟨_,_,_,h⟩:=qB h
     obtain⟨_,_,_,h⟩:=qB h;obtain⟨_,_,_,h⟩:=qB h;obtain⟨_,_,_,h⟩:=qB h;injection h with h _;rw[←h,kN,cntSs]
   · obtain⟨_,_,_,h⟩:=qB h
     obtain⟨_,_,_,h⟩:=qB h;injection h with h _;rw[←h,kN,cntSs]
theorem cnt_app:∀ (a b:List St),cntSs (a++b)=cntSs a+cntSs b
 | [],b=>by rw[List.nil_append,cntSs];omega
 | s :: r,b=>by rw[List.cons_append,cntSs,cntSs,cnt_app r b];omega
theorem cnt_stmt:∀ n:Nat,(∀ d l s r,ze l→pS n d l=.ok s r→kN s+r.length≤l.length)∧(∀ d e t l s r,ze l→pEl n d e t l=.ok s r→kN s+r.length≤l.length+1+cntSs t)∧(∀ d l b r,ze l→pB n d l=.ok b r→cntSs b+r.length≤l.length)∧(∀ d acc l b r,ze l→pBL n d acc l=.ok b r→cntSs b+r.length≤l.length+cntSs acc)
 | 0=>⟨fun d l s r _ h=>(by rw[pS]at h;cases h),fun d e t l s r _ h=>(by rw[pEl]at h;cases h),fun d l b r _ h=>(by rw[pB]at h;cases h),fun d acc l b r _ h=>(by rw[pBL]at h;cases h)⟩
 | n+1=>by
   obtain⟨iS,iE,iB,iL⟩:=cnt_stmt n;refine⟨fun d l s r hl h=>?_,fun d e t l s r hl h=>?_,fun d l b r hl h=>?_,fun d acc l b r hl h=>?_⟩
   · have hf:=(jX (pS_fits (n:=n+1) (d:=d) hl) h).2
     rw[pS]at h;split at h
     · cases h
     split at h
     · obtain⟨r1,h⟩:=bsm_ok h
       obtain⟨_,_,_,h⟩:=qB h;obtain⟨_,_,_,h⟩:=qB h;obtain⟨_,_,_,h⟩:=qB h;obtain⟨_,_,_,h⟩:=qB h;injection h with h _;rw[←h,kN,cntSs];omega
     split at h
     · rename_i hs
       obtain⟨e,r1,h1,h⟩:=qB h;obtain⟨t,r2,h2,h⟩:=qB h;have ht:=zH.sign hl hs;obtain⟨he1,hz1⟩:=jX (xN ht.2.1) h1;have hb:=iB _ _ _ _ he1 h2;have he2:=(jX (vY he1) h2).1;have:=iE _ _ _ _ _ _ he2 h;have:=ht.2.2;omega
     split at h
     · rename_i hs
       obtain⟨e,r1,h1,h⟩:=qB h;obtain⟨t,r2,h2,h⟩:=qB h;have ht:=zH.sign hl hs;obtain⟨he1,hz1⟩:=jX (xN ht.2.1) h1;have hb:=iB _ _ _ _ he1 h2;injection h with h h3;have:=ht.2.2;rw[←h,←h3,kN,cntSs];omega
     split at h
     · obtain⟨r1,h⟩:=bsm_ok h
       injection h with h _;rw[←h,kN,cntSs];omega
     split at h
     · obtain⟨r1,h⟩:=bsm_ok h
       injection h with h _;rw[←h,kN,cntSs];omega
     split at h
     · obtain⟨r1,h⟩:=bsm_ok h
       obtain⟨_,_,_,h⟩:=qB h;injection h with h _;rw[←h,kN,cntSs];omega
     split at h
     · obtain⟨r1,h⟩:=bsm_ok h
       obtain⟨_,_,_,h⟩:=qB h;injection h with h _;rw[←h,kN,cntSs];omega
     · obtain⟨r1,h⟩:=bsm_ok h
       have:=nm_leaf h;omega
   · rw[pEl]at h
     split at h
     · rename_i hs
       obtain⟨u,r1,h1,h⟩:=qB h;have ht:=zH.sign hl hs;have:=iB _ _ _ _ ht.2.1 h1;have:=ht.2.2;injection h with h h3;rw[←h,←h3,kN];omega
     · injection h with h h3
       rw[←h,←h3,kN,cntSs];omega
   · rw[pB]at h
     obtain⟨_,r1,h1,h⟩:=qB h;obtain⟨he,hz⟩:=jX (zJ hl _) h1;have:=iL _ _ _ _ _ he h;rw[cntSs]at this;omega
   · rw[pBL]at h
     split at h
     · rename_i hs
       have ht:=(zH.sign hl hs).2.2;injection h with h h3;rw[←h,←h3];omega
     · obtain⟨s,r1,h1,h⟩:=qB h
       have h2:=iS _ _ _ _ hl h1;have he:=(jX (pS_fits hl) h1).1;have h3:=iL _ _ _ _ _ he h;rw[cnt_app,cntSs,cntSs]at h3;omega
theorem cnt_pars:∀ (n:Nat) (acc:List Pa) (l:List Tok) (ps:List Pa) (r:List Tok),ze l→pPL n acc l=.ok ps r→ps.length+r.length≤l.length+acc.length
 | 0,acc,l,ps,r,_,h=>by rw[pPL]at h;cases h
 | n+1,acc,l,ps,r,hl,h=>by
   rw[pPL]at h;obtain⟨t,r1,h1,h⟩:=qB h;obtain⟨he1,hz1⟩:=jX (kT hl) h1;obtain⟨s,r2,h2,h⟩:=qB h;obtain⟨he2,hz2⟩:=jX (qX he1 1 (by decide)) h2;split at h
   · rename_i hs
     have ht:=zH.sign he2 hs;have h3:=cnt_pars n _ _ _ _ ht.2.1 h;have:=ht.2.2;rw[List.length_append,List.length_singleton]at h3;omega
   · obtain⟨_,r3,h3,h⟩:=qB h
     obtain⟨_,hz3⟩:=jX (zJ he2 _) h3;injection h with h h4;rw[←h,←h4,List.length_append,List.length_singleton];omega
theorem cnt_fn {n:Nat} {t:Int} {s:ByteArray} {l r:List Tok} {f:Fu} (hl:ze l) (h:pFn n t s l=.ok f r):f.params.length+cntSs f.body+r.length≤l.length:=by
 unfold pFn at h;obtain⟨ps,r1,h1,h⟩:=qB h;have he1:=(jX (pPs_fits hl) h1).1;obtain⟨b,r2,h2,h⟩:=qB h;have h3:=(cnt_stmt n).2.2.1 _ _ _ _ he1 h2
 have h4:ps.length+r1.length≤l.length:=by
  unfold pPs at h1;obtain⟨_,r3,h5,h1⟩:=qB h1;obtain⟨he3,hz3⟩:=jX (zJ hl _) h5;split at h1
  · rename_i hs
    have:=(zH.sign he3 hs).2.2;injection h1 with h1 h6;rw[←h1,←h6,List.length_nil];omega
  · have:=cnt_pars _ _ _ _ _ he3 h1
    rw[List.length_nil]at this;omega
 injection h with h h5;rw[←h,←h5];show ps.length+cntSs b+r2.length≤l.length;omega
def vz:List Fu→Nat
 | []=>0
 | f :: r=>1+f.params.length+cntSs f.body+vz r
theorem cntF_app:∀ (a b:List Fu),vz (a++b)=vz a+vz b
 | [],b=>by rw[List.nil_append,vz];omega
 | s :: r,b=>by rw[List.cons_append,vz,vz,cntF_app r b];omega
theorem cntF_len:∀ l:List Fu,l.length≤vz l
 | []=>Nat.zero_le _
 | f :: r=>by have:=cntF_len r;rw[vz,List.length_cons];omega
theorem cntF_mem:∀ {l:List Fu} {f:Fu},f ∈ l→f.params.length+cntSs f.body≤vz l
 | g :: r,f,h=>by
   rw[vz];rcases List.mem_cons.1 h with rfl | h
   · omega
   · have:=cntF_mem h;omega
theorem cnt_prog:∀ (n:Nat) (p:Pr) (l:List Tok) (q:Pr) (r:List Tok),ze l→uY n p l=.ok q r→q.arrays.length+vz q.funcs+r.length≤l.length+p.arrays.length+vz p.funcs
 | 0,p,l,q,r,_,h=>by rw[uY]at h;cases h
 | n+1,p,l,q,r,hl,h=>by
   rw[uY]at h;split at h
   · injection h with h h1
     rw[←h,←h1];omega
   · obtain⟨t,r1,h1,h⟩:=qB h
     obtain⟨he1,hz1⟩:=jX (kT hl) h1;obtain⟨s,r2,h2,h⟩:=qB h;obtain⟨he2,hz2⟩:=jX (qX he1 1 (by decide)) h2;split at h
     · rename_i hs
       have ht:=zH.sign he2 hs.2.2;obtain⟨a,r3,h3,h⟩:=qB h;obtain⟨he3,hz3⟩:=jX (pArr_fits ht.2.1) h3;have h4:=cnt_prog n _ _ _ _ he3 h;have:=ht.2.2;dsimp only at h4;rw[List.length_append,List.length_singleton]at h4;omega
     · obtain⟨f,r3,h3,h⟩:=qB h
       have h5:=cnt_fn he2 h3;have he3:=(jX (vE he2) h3).1;have h4:=cnt_prog n _ _ _ _ he3 h;dsimp only at h4;rw[cntF_app,vz,vz]at h4;omega
theorem nmB_20 {s:ByteArray} (h:vt s=true):s.size≤maxLen:=by
 unfold vt jl at h;simp only[Bool.and_eq_true,decide_eq_true_eq]at h;have h1:s.size≤20:=by simpa using h.1.1.1.2
 unfold maxLen;omega
theorem sized_ok {p:Pr} (h:prOK p=true):Sized p:=by
 unfold prOK at h;rw[Bool.and_eq_true]at h;refine⟨fun a ha=>?_,fun f hf=>?_⟩
 · have h1:=List.all_eq_true.1 h.1 a ha
   unfold yK at h1;rw[Bool.and_eq_true]at h1;exact nmB_20 h1.1
 · have h1:=List.all_eq_true.1 h.2 f hf
   unfold k8 at h1;simp only[Bool.and_eq_true]at h1;refine⟨nmB_20 h1.1.1.1.1,fun x hx=>?_⟩;have h2:=List.all_eq_true.1 h1.1.2 x hx;unfold y6 at h2;rw[Bool.and_eq_true]at h2;exact nmB_20 h2.1
theorem docP_ok6 {s:ByteArray} {p:Pr} {ln:Nat} (h:kq s=(p,0,ln)):s.size≤100000∧∃ ts r,zq s.data.toList 1=(ts,none)∧je ts=.ok p r∧prOK p=true:=by
 by_cases hs:100000<s.size
 · rw[docP_long hs]at h
   simp at h
 · cases hn:(zq s.data.toList 1).2 with
   | some l=>
     rw[docP_no (by omega) hn]at h;simp at h
   | none=>
     have h2:=scan_none hn;rw[vR (by omega) h2]at h;unfold docT at h;cases hp:je (zq s.data.toList 1).1 with
     | ok q r=>
       rw[hp]at h;dsimp only at h;split at h
       · rename_i hq
         have e:q=p:=congrArg Prod.fst h;subst e;exact⟨by omega,_,r,h2,hp,hq⟩
       · simp at h
     | bad r=>rw[hp]at h;simp at h
     | deep r=>rw[hp]at h;simp at h
     | out=>
       have x:=kx (jQ _ _ _ _ Zr h2);rw[hp]at x;exact x.elim
theorem docP_bad6 {s:ByteArray} {p:Pr} {k:Int} {ln:Nat} (h:kq s=(p,k,ln)) (hk:k≠0):p=pr0:=by
 by_cases hs:100000<s.size
 · rw[docP_long hs]at h
   exact(congrArg Prod.fst h).symm
 · cases hn:(zq s.data.toList 1).2 with
   | some l=>
     rw[docP_no (by omega) hn]at h;exact(congrArg Prod.fst h).symm
   | none=>
     have h2:=scan_none hn;rw[vR (by omega) h2]at h;unfold docT at h;cases hp:je (zq s.data.toList 1).1 with
     | ok q r=>
       rw[hp]at h;dsimp only at h;split at h
       · exact absurd (congrArg (fun x=>x.2.1) h).symm hk
       · exact(congrArg Prod.fst h).symm
     | bad r=>rw[hp]at h;exact(congrArg Prod.fst h).symm
     | deep r=>rw[hp]at h;exact(congrArg Prod.fst h).symm
     | out=>rw[hp]at h;exact(congrArg Prod.fst h).symm
theorem small_any {s:ByteArray} {p:Pr} {ln:Nat} (h:kq s=(p,0,ln)):Small p:=by
 obtain⟨hs,ts,r,h1,h2,h3⟩:=docP_ok6 h;have hE:=jQ _ _ _ _ Zr h1;have hl:=(yZ _ _ _ _ Zr h1).2;have hz:s.data.toList.length=s.size:=by simp
 have hc:=cnt_prog _ _ _ _ _ hE h2;rw[vz]at hc;have hn:([]:List Ar).length=0:=rfl;have hlen:=cntF_len p.funcs;refine⟨h3,sized_ok h3,?_,?_,fun f hf=>?_⟩
 · simp at hc;omega
 · simp at hc;omega
 · have:=cntF_mem hf;simp at hc;omega
theorem rvalue_nil (w:World):Calls Tryz.prog 43 #[.string ⟨#[]⟩] w fun e w'=>e=.returned (.int .i64 (-1))∧w=w':=by
 go_enter Tryz.func43,Tryz.ntmps43;go_wp2
 go_loop [3,4,5] (fun n i _=>i=.int .i64 0∧n=.int .i64 0) (fun _ i _=>0)
 case atStart=>exact⟨rfl,rfl⟩
 case round=>
  obtain⟨rfl,rfl⟩:=hrel;go_wp2;go_ret;exact⟨rfl,rfl⟩
theorem text_nil {b:Nat} {V:Value} {all r:List Tok} {w:World} (h:qx b V all (.ok () r) w) (k:Int) (hk:yn r≠k):
 Calls Tryz.prog 41 #[.pointer (some ⟨b,0,none⟩),.int .i64 k] w fun e w'=>e=.returned (.string ⟨#[]⟩)∧qY b V all w (.bad r) w':=by
 have hp:zS b V all r false false w:=h;clear h;have hS:=fun o=>box_spoil hp o
 have hlt:=hp.lt;have f1:=hp.1.frozen 1;have f2:=hp.1.frozen 2;have HOV:=hid (show qx b V all (.ok () r) w from hp);obtain⟨g,c,p,t,q,rfl,rfl,hpp,hpl,hl,c0,c1,c2,c3,t0,t1,t2⟩:=hp.tok;have hlk:(p:Int)<all.length:=by omega
 have hw0:0<w.heap.size:=by omega
 have HS:=hid hS;have e2:(t.kind != k)=true:=by simpa[yn] using hk
 clear hp hpp hS hk;go_enter Tryz.func41,Tryz.ntmps41;go_wp2_with (go_at_call 39;(with_reducible refine(zl HOV.out false rfl).mono ?_);rintro e w1 ⟨rfl,rfl⟩)
 go_region_held3 (fun w'=>w'.cell? ⟨b,0,none⟩=some (.slice (some ⟨g,0,none⟩) all.length c)∧w'.cell? ⟨b,1,none⟩=some (.int .i64 p)∧w'.cell? ⟨g,p * 3,none⟩=some (.int .i64 t.kind)∧w'.cell? ⟨g,p * 3+1,none⟩=some (.string ⟨t.text.toArray⟩)∧w'.cell? ⟨g,p * 3+2,none⟩=some (.int .i64 (t.line:Int))∧0<w'.heap.size)
  (first | go_keep | (go_split_ands;refine⟨?_,?_,?_,?_,?_,?_⟩ <;> assumption))
  (fail)
 go_wp2_with (fail);go_ret;exact⟨rfl,HS.out _⟩
abbrev pgBox:Obj:=.cells #[.slice none 0 0,.slice none 0 0] 26
abbrev yA (W:World) (g:Nat) (c0 c1:Value):World:=(W.setCell ⟨g,0,none⟩ c0).setCell ⟨g,1,none⟩ c1
theorem nest2_row {W:World} {g:Nat} {d0 d1:Value} {T:TypeId} {fr:Nat × Nat} (hb:W.heap[g]? =some (.cells #[d0,d1] T fr)) (c0 c1:Value):(yA W g c0 c1).heap[g]? =some (.cells #[c0,c1] T fr):=Lib.heap_setCell_same (Lib.heap_setCell_same hb c0) c1
theorem zD.nest2 {L g:Nat} {w:World} (hg:g<L) (c0 c1:Value):zD L w (yA w g c0 c1):=(zD.set hg 0 c0).trans (zD.set hg 1 c1)
theorem j8 {W:World} {g:Nat} {c0 c1:Value} {T:TypeId} (h:W.heap[g]? =some (.cells #[c0,c1] T (0,0))):(W.cell? ⟨g,0,none⟩=some c0∧W.cell? ⟨g,1,none⟩=some c1)∧∀ o,W.frozen? ⟨g,o,none⟩=false:=by
 refine⟨⟨(Lib.cell_of_heap h 0).trans rfl,(Lib.cell_of_heap h 1).trans rfl⟩,fun o=>?_⟩;simp[World.frozen?,h]
def FrG (L:Nat) (w:World) (a:Pr) (v:Value):Prop:=∃ v0 v1,v=.agg #[v0,v1]∧SlA w.heap.size (mask (yd L) w) v0 a.arrays∧SlF w.heap.size (mask (yd L) w) v1 a.funcs
def CurP (b:Nat) (V:Value) (all:List Tok) (w:World) (x:PR Unit) (W:World) (c0 c1:Value):Prop:=
 qY b V all w x W∧W.heap[w.heap.size]? =some pgBox∧W.heap[w.heap.size+1]? =some (.cells #[c0,c1] 26 (0,0))∧vy b V all w∧b<w.heap.size
section
variable {b:Nat} {V:Value} {all:List Tok} {w W W':World} {x y:PR Unit} {c0 c1:Value}
theorem CurP.start (h:qx b V all x w):CurP b V all w x ((w.alloc pgBox).alloc pgBox) (.slice none 0 0) (.slice none 0 0):=by
 have hb:Below w.heap.size w ((w.alloc pgBox).alloc pgBox):=(Zb.alloc Zr _).alloc (by rw[zA];omega) _;refine⟨⟨h.below hb,OffB.of_below hb h.lt⟩,zc (heap_alloc_new w pgBox) _,?_,h.tok,h.lt⟩;have:=heap_alloc_new (w.alloc pgBox) pgBox;rw[zA]at this;exact this
theorem CurP.did (h:CurP b V all w x W c0 c1):qY b V all w x W:=h.1
theorem CurP.st (h:CurP b V all w x W c0 c1):qx b V all x W:=h.1.1
theorem CurP.lt (h:CurP b V all w x W c0 c1):b<w.heap.size:=h.2.2.2.2
theorem CurP.size (h:CurP b V all w x W c0 c1):w.heap.size+1<W.heap.size:=(Array.getElem?_eq_some_iff.1 h.2.2.1).1
theorem CurP.step (h:CurP b V all w x W c0 c1) (g:qY b V all W y W'):CurP b V all w y W' c0 c1:=
 ⟨h.1.after g,qW g.off (by have:=h.size;omega) (by have:=h.lt;omega) h.2.1,qW g.off h.size (by have:=h.lt;omega) h.2.2.1,h.2.2.2⟩
theorem CurP.alloc (h:CurP b V all w x W c0 c1) (o:Obj):CurP b V all w x (W.alloc o) c0 c1:=⟨h.1.alloc o,zc h.2.1 o,zc h.2.2.1 o,h.2.2.2⟩
theorem CurP.own (h:CurP b V all w x W c0 c1):(W.cell? ⟨w.heap.size,0,none⟩=some (.slice none 0 0)∧W.cell? ⟨w.heap.size,1,none⟩=some (.slice none 0 0))∧∀ o,W.frozen? ⟨w.heap.size,o,none⟩=false:=j8 h.2.1
theorem CurP.f (h:CurP b V all w x W c0 c1):(W.cell? ⟨w.heap.size+1,0,none⟩=some c0∧W.cell? ⟨w.heap.size+1,1,none⟩=some c1)∧∀ o,W.frozen? ⟨w.heap.size+1,o,none⟩=false:=j8 h.2.2.1
theorem CurP.set (h:CurP b V all w x W c0 c1) (i:Nat) (u:Value):qY b V all w x (W.setCell ⟨w.heap.size+1,i,none⟩ u)∧(W.setCell ⟨w.heap.size+1,i,none⟩ u).heap[w.heap.size]? =some pgBox:=
 ⟨h.1.set h.2.2.2.1 (by omega) (by have:=h.lt;omega) i u,(Below.heap_setCell W _ u _ (by show w.heap.size≠w.heap.size+1;omega)).trans h.2.1⟩
theorem CurP.set0 (h:CurP b V all w x W c0 c1) (u:Value):CurP b V all w x (W.setCell ⟨w.heap.size+1,0,none⟩ u) u c1:=⟨(h.set 0 u).1,(h.set 0 u).2,Lib.heap_setCell_same h.2.2.1 u,h.2.2.2⟩
theorem CurP.set1 (h:CurP b V all w x W c0 c1) (u:Value):CurP b V all w x (W.setCell ⟨w.heap.size+1,1,none⟩ u) c0 u:=⟨(h.set 1 u).1,(h.set 1 u).2,Lib.heap_setCell_same h.2.2.1 u,h.2.2.2⟩
theorem CurP.fin (h:CurP b V all w y W c0 c1) {X:PR Pr} (hy:X.un=y) (hG:qn X fun a=>FrG w.heap.size (_root_.Go.Proofs.YtfghofifjnbicaaGreatDoor.yA W w.heap.size c0 c1) a (.agg #[c0,c1])):
 qF b V all w X (FrG w.heap.size) (.returned (.agg #[c0,c1])) (_root_.Go.Proofs.YtfghofifjnbicaaGreatDoor.yA W w.heap.size c0 c1):=
 ⟨_,rfl,hy ▸ (h.1.set h.2.2.2.1 Zr (by have:=h.lt;omega) 0 c0).set h.2.2.2.1 Zr (by have:=h.lt;omega) 1 c1,hG⟩
theorem CurP.read (h:CurP b V all w x W c0 c1):((W.setCell ⟨w.heap.size,0,none⟩ c0).setCell ⟨w.heap.size,1,none⟩ c1).cell? ⟨w.heap.size,0,none⟩=some c0∧((W.setCell ⟨w.heap.size,0,none⟩ c0).setCell ⟨w.heap.size,1,none⟩ c1).cell? ⟨w.heap.size,1,none⟩=some c1:=(j8 (nest2_row h.2.1 c0 c1)).1
end
theorem got_eq {α β:Type} {x:PR α} {a0:α} (h:qn x fun a=>a=a0) (F:α→List Tok→PR β):x.bind F=x.un.bind fun _ r=>F a0 r:=by
 cases x with
 | ok a r=>
   obtain rfl:a=a0:=h;rfl
 | _=>rfl
def pgK (q:Nat) (p:Pr) (a:Pa) (r:List Tok):PR Pr:=
 if a.type=1∧p.funcs=[]∧z6 [91] r=true then (pArr a.name r.tail).bind fun x r=>uY q ⟨p.arrays++[x],p.funcs⟩ r
 else (pFn q a.type a.name r).bind fun f r=>uY q ⟨p.arrays,p.funcs++[f]⟩ r
theorem pPr_got {q:Nat} {p:Pr} {r:List Tok} (h:yn r≠3):uY (q+1) p r=(q6 r).bind fun a r=>pgK q p a r:=by
 rw[uY,if_neg h];unfold q6;simp only[zR];rfl
theorem pPr_end {q:Nat} {p:Pr} {r:List Tok} (h:yn r=3):uY (q+1) p r=.ok p r:=by rw[uY,if_pos h]
theorem own_apart {w:World} {B:Nat} {e t:TypeId} {n m k l:Nat} {v u:Value} {xs ys:List Value} (h:w.ownsRow B e n v k xs) (g:w.ownsRow B t m u l ys) (hne:e≠t):∀ j,v.ownBlock=some j→u.ownBlock≠some j:=by
 intro j hj;rcases h.2 with⟨rfl,_⟩ | ⟨g',cap,cur,rfl,h1,h2,_⟩
 · cases hj
 · injection hj with hj
   subst hj;exact own_ne g (show Is w g' e cur from h2) (fun e=>hne e.symm)
structure PgAt (b:Nat) (V:Value) (all:List Tok) (w:World) (y:PR Unit) (W:World) (va vf:Value) (ars:List Ar) (fs:List FuV):Prop where
 cur:CurP b V all w y W va vf
 arr:OutK kA (w.heap.size+2) W va ars
 fnc:OutK kF (w.heap.size+2) W vf fs
 nil:fs=[]→vf=.slice none 0 0
section
variable {b:Nat} {V:Value} {all:List Tok} {w W W':World} {x y:PR Unit} {va vf:Value} {ars:List Ar} {fs:List FuV}
theorem PgAt.step (h:PgAt b V all w x W va vf ars fs) (g:qY b V all W y W'):PgAt b V all w y W' va vf ars fs:=
 ⟨h.cur.step g,h.arr.keep (zD.did g (by have:=h.cur.lt;omega)),h.fnc.keep (zD.did g (by have:=h.cur.lt;omega)),h.nil⟩
theorem PgAt.drewN (h:PgAt b V all w x W va vf ars fs) (n:Nat):PgAt b V all w x (W.drewN n) va vf ars fs:=h.step ⟨h.cur.st.drewN n,(OffB.refl b _ W).drewN n⟩
theorem PgAt.drew (h:PgAt b V all w x W va vf ars fs):PgAt b V all w x W.drew va vf ars fs:=h.step ⟨h.cur.st.below Zb.drew,OffB.of_below Zb.drew h.cur.st.lt⟩
theorem PgAt.array {w5:World} {v1:Value} {a:Ar} (h:PgAt b V all w y W va vf ars []) (hg:(W.alloc (.cells #[.string a.name,.int .i64 a.size] 62)).grownBy w5 va.ownBlock) (hr:xA (W.alloc (.cells #[.string a.name,.int .i64 a.size] 62)) va v1)
 (ho:w5.ownsRow (w.heap.size+2) 62 2 v1 (ars.length+1) (ars.flatMap kA.cs++[.string a.name,.int .i64 a.size])):CurP b V all w y w5 va vf∧PgAt b V all w y (w5.setCell ⟨w.heap.size+1,0,none⟩ v1) v1 vf (ars++[a]) []:=by
 have hC:=h.cur;have hal:Below W.heap.size W (W.alloc (.cells #[.string a.name,.int .i64 a.size] 62)):=Zb.alloc Zr _;have hO1:OutK kA (w.heap.size+2) w5 v1 (ars++[a]):=h.arr.app (L:=W.heap.size) trivial (by have:=hC.size;omega) (fun k hk=>(h.arr.own k hk).1) hal hg hr ho;have hown:∀ j,va.ownBlock=some j→w.heap.size+2≤j:=fun j hj=>(h.arr.own j hj).2
 have hblk:∀ j,j<W.heap.size→j<w.heap.size+2→w5.heap[j]? =W.heap[j]?:=fun j hj hj2=>(hg.block j (Nat.lt_of_lt_of_le hj hal.size) (fun e=>by have:=hown j e.symm;omega)).trans (hal.block j hj)
 have hz:=hC.size;have hbl:=hC.lt;have hoff:OffB b w.heap.size w w5:=hC.did.off.trans (OffB.mk' (hg.os.trans hal.os) (hg.tape.trans hal.tape) (hg.output.trans hal.output) (Nat.le_trans hal.size hg.size) hC.st.lt fun j hj _=>hblk j (by have:=hC.did.off.size;omega) (by omega));have hC1:CurP b V all w y w5 va vf:=⟨⟨hC.st.move hC.2.2.2.1 hoff (hblk b hC.st.lt (by omega)),hoff⟩,(hblk _ (by omega) (by omega)).trans hC.2.1,(hblk _ hz (by omega)).trans hC.2.2.1,hC.2.2.2⟩
 refine⟨hC1,hC1.set0 v1,hO1.keep (zD.set (by omega) 0 v1),?_,h.nil⟩;rw[h.nil rfl];exact OutK.nil _ _ _
theorem PgAt.func {w5:World} {v1:Value} {s:ByteArray} {t:Int} {v2 v3:Value} (h:PgAt b V all w y W va vf ars fs) (hg:(W.alloc (.cells #[.string s,.int .i64 t,v2,v3] 45)).grownBy w5 vf.ownBlock) (hr:xA (W.alloc (.cells #[.string s,.int .i64 t,v2,v3] 45)) vf v1)
 (ho:w5.ownsRow (w.heap.size+2) 45 4 v1 (fs.length+1) (fs.flatMap kF.cs++[.string s,.int .i64 t,v2,v3])) {L:Nat} (hL:w.heap.size+2≤L) (hL2:∀ k,vf.ownBlock=some k→k<L):
 CurP b V all w y w5 va vf∧∀ f,FrF L W f (.agg #[.string s,.int .i64 t,v2,v3])→∃ q:FuV,q.f=f∧PgAt b V all w y (w5.setCell ⟨w.heap.size+1,1,none⟩ v1) va v1 ars (fs++[q]):=by
 have hC:=h.cur;have hal:Below W.heap.size W (W.alloc (.cells #[.string s,.int .i64 t,v2,v3] 45)):=Zb.alloc Zr _;have hown:∀ j,vf.ownBlock=some j→w.heap.size+2≤j:=fun j hj=>(h.fnc.own j hj).2
 have hblk0:∀ j,j<W.heap.size→vf.ownBlock≠some j→w5.heap[j]? =W.heap[j]?:=fun j hj hj2=>(hg.block j (Nat.lt_of_lt_of_le hj hal.size) (fun e=>hj2 e.symm)).trans (hal.block j hj)
 have hblk:∀ j,j<W.heap.size→j<w.heap.size+2→w5.heap[j]? =W.heap[j]?:=fun j hj hj2=>hblk0 j hj (fun e=>by have:=hown j e;omega)
 have hz:=hC.size;have hbl:=hC.lt;have hoff:OffB b w.heap.size w w5:=hC.did.off.trans (OffB.mk' (hg.os.trans hal.os) (hg.tape.trans hal.tape) (hg.output.trans hal.output) (Nat.le_trans hal.size hg.size) hC.st.lt fun j hj _=>hblk j (by have:=hC.did.off.size;omega) (by omega));have hC1:CurP b V all w y w5 va vf:=⟨⟨hC.st.move hC.2.2.2.1 hoff (hblk b hC.st.lt (by omega)),hoff⟩,(hblk _ (by omega) (by omega)).trans hC.2.1,(hblk _ hz (by omega)).trans hC.2.2.1,hC.2.2.2⟩
 refine⟨hC1,fun f hf=>?_⟩;obtain⟨u2,u3,hv,h2,h3⟩:=hf;simp only[Value.agg.injEq,Array.mk.injEq,List.cons.injEq,Value.int.injEq,Value.string.injEq,true_and,and_true]at hv;obtain⟨rfl,rfl,rfl,rfl⟩:=hv;have hO1:OutK kF (w.heap.size+2) w5 v1 (fs++[⟨f,v2,v3⟩]):=h.fnc.app (K:=kF) (L:=L) (p:=(⟨f,v2,v3⟩:FuV)) (show SlP W.heap.size (mask (yd L) W) v2 f.params∧SlS W.heap.size (mask (yd L) W) v3 f.body from⟨h2,h3⟩) hL hL2 hal hg hr ho
 have hA:OutK kA (w.heap.size+2) w5 va ars:=by
  refine⟨qR h.arr.1 fun j hj=>hblk0 j (h.arr.own j hj).1 ?_,fun p hp=>trivial⟩;exact own_apart h.arr.1 h.fnc.1 (by decide) j hj
 exact⟨⟨f,v2,v3⟩,rfl,hC1.set1 v1,hA.keep (zD.set (by omega) 1 v1),hO1.keep (zD.set (by omega) 1 v1),fun e=>absurd e (by simp)⟩
end
theorem RdA.imp {B B':Nat} {w w':World} (hc:∀ g o u,CellB B w g o u→CellB B' w' g o u) (a:Ar) (g o:Nat) (h:RdA B w a g o):RdA B' w' a g o:=⟨hc _ _ _ h.1,hc _ _ _ h.2⟩
theorem SlA.imp {B B':Nat} {w w':World} (hc:∀ g o u,CellB B w g o u→CellB B' w' g o u) {v:Value} {l:List Ar} (h:SlA B w v l):SlA B' w' v l:=xF.imp h fun g o=>xn.imp (fun a g o=>RdA.imp hc a g o) l g o
theorem RdF.imp {B B':Nat} {w w':World} (hc:∀ g o u,CellB B w g o u→CellB B' w' g o u) (a:Fu) (g o:Nat) (h:RdF B w a g o):RdF B' w' a g o:=by
 obtain⟨h0,h1,⟨v,h2,h3⟩,⟨v',h4,h5⟩⟩:=h;exact⟨hc _ _ _ h0,hc _ _ _ h1,⟨v,hc _ _ _ h2,h3.imp hc⟩,⟨v',hc _ _ _ h4,h5.imp hc⟩⟩
theorem SlF.imp {B B':Nat} {w w':World} (hc:∀ g o u,CellB B w g o u→CellB B' w' g o u) {v:Value} {l:List Fu} (h:SlF B w v l):SlF B' w' v l:=xF.imp h fun g o=>xn.imp (fun a g o=>RdF.imp hc a g o) l g o
def PgRel (b:Nat) (V:Value) (all:List Tok) (w:World) (T:PR Pr) (n:Nat) (wr:World):Prop:=
 ∃ (m:Nat) (ars:List Ar) (fs:List FuV) (y:PR Unit) (va vf:Value),m≤n∧PgAt b V all w y wr va vf ars fs∧T=y.bind (fun _ r=>uY m ⟨ars,fs.map (·.f)⟩ r)∧(zg y=false→ars.length+fs.length≤xG b wr)∧ars.length+fs.length≤2000000
theorem pg_end {b:Nat} {V:Value} {all:List Tok} {w W:World} {y:PR Unit} {va vf:Value} {ars:List Ar} {fs:List FuV} {T:PR Pr} (h:PgAt b V all w y W va vf ars fs) (hn:ars.length+fs.length≤2000000) (hT:T=y.bind fun _ r=>.ok ⟨ars,fs.map (·.f)⟩ r):qF b V all w T (FrG w.heap.size) (.returned (.agg #[va,vf])) (yA W w.heap.size va vf):=by
 subst hT;have hk:zD (w.heap.size+2) W (yA W w.heap.size va vf):=zD.nest2 (by omega) _ _;have ha:=(h.arr.keep hk).arrays (by omega);have hf:=(h.fnc.keep hk).funcs (by omega);have hl:∀ g o u,CellB (yA W w.heap.size va vf).heap.size (mask (yd (w.heap.size+2)) (yA W w.heap.size va vf)) g o u→CellB (yA W w.heap.size va vf).heap.size (mask (yd w.heap.size) (yA W w.heap.size va vf)) g o u:=(zD.refl (w.heap.size+2) _).cells (by omega);have hg:FrG w.heap.size (yA W w.heap.size va vf) ⟨ars,fs.map (·.f)⟩ (.agg #[va,vf]):=⟨va,vf,rfl,SlA.imp hl ha,SlF.imp hl hf⟩
 refine h.cur.fin ?_ ?_
 · rw[qr]
   cases y <;> rfl
 · cases y with
   | ok u r=>exact hg
   | bad r=>exact⟨_,hg⟩
   | deep r=>exact⟨_,hg⟩
   | out=>trivial
theorem got_pick {α:Type} {Y:PR α} {P:α→Prop} (h:qn Y P) (he:zG Y):∃ a,P a∧∀ {β:Type} (F:α→List Tok→PR β),Y.bind F=Y.un.bind fun _ r=>F a r:=by
 cases Y with
 | ok a r=>exact⟨a,h,fun F=>rfl⟩
 | bad r=>obtain⟨a,ha⟩:=h;exact⟨a,ha,fun F=>rfl⟩
 | deep r=>obtain⟨a,ha⟩:=h;exact⟨a,ha,fun F=>rfl⟩
 | out=>exact absurd he id
theorem pgK_fn {q:Nat} {p:Pr} {a:Pa} {z:PR Unit} (hc:¬ (a.type=1∧p.funcs=[]∧zP [91] z=true)):(z.bind fun _ r=>pgK q p a r)=(z.bind fun _ r=>pFn q a.type a.name r).bind fun f r=>uY q ⟨p.arrays,p.funcs++[f]⟩ r:=by
 cases z with
 | ok u r=>
   show pgK q p a r=(pFn q a.type a.name r).bind _;unfold pgK;exact congrArg id (if_neg hc)
 | _=>rfl
theorem pgK_arr {q:Nat} {p:Pr} {a:Pa} {r:List Tok} (h1:a.type=1) (h2:p.funcs=[]) (h3:z6 [91] r=true):pgK q p a r=(pArr a.name r.tail).bind fun x r=>uY q ⟨p.arrays++[x],p.funcs⟩ r:=by
 unfold pgK;rw[if_pos ⟨h1,h2,h3⟩]
theorem fits_at {α:Type} {b:Nat} {V:Value} {all r:List Tok} {W:World} {X:PR α} (hF:zY 1 r X) (hs:qx b V all X.un W) (hrl:r.length≤all.length) (hrp:0<r.length):
 2 * (all.length-xG b W)+xy b W<2 * r.length+1∧(zg X.un=false→all.length-r.length+1≤xG b W):=by
 cases X with
 | ok a r2=>
   have hp:zS b V all r2 false false W:=hs;have hao:=qk hp;have hl:=(show zH 1 r r2 from hF).2.2;have hlv:=liveN_le b W;exact⟨by omega,fun _=>by omega⟩
 | bad r2=>
   have hp:zS b V all r2 true false W:=hs;have hao:=qk hp;have hl:=(show zH 0 r r2 from hF).2.2;have hlv:=yh hs rfl;exact⟨by omega,fun h=>by cases h⟩
 | deep r2=>
   have hp:zS b V all r2 false true W:=hs;have hao:=qk hp;have hl:=(show zH 0 r r2 from hF).2.2;have hlv:=yh hs rfl;exact⟨by omega,fun h=>by cases h⟩
 | out=>exact absurd hs id
theorem pg_rel {α:Type} {b:Nat} {V:Value} {all r:List Tok} {w W:World} {va vf:Value} {ars:List Ar} {fs:List FuV} {T:PR Pr} {X:PR α} {q n:Nat} (hq:q≤n) (hF:zY 1 r X) (hP:PgAt b V all w X.un W va vf ars fs) (hT:T=X.un.bind fun _ r=>uY q ⟨ars,fs.map (·.f)⟩ r)
 (hrl:r.length≤all.length) (hrp:0<r.length) (hc:ars.length+fs.length≤all.length-r.length+1) (hal:all.length≤1000000):PgRel b V all w T n W∧2 * (all.length-xG b W)+xy b W<2 * r.length+1:=by
 obtain⟨h1,h2⟩:=fits_at hF hP.cur.st hrl hrp;exact⟨⟨q,ars,fs,_,va,vf,hq,hP,hT,fun ho=>by have:=h2 ho;omega,by omega⟩,h1⟩
theorem parOne_live {r:List Tok} {a:Pa} {r1:List Tok} (h:(q6 r).un=.ok () r1) (hg:qn (q6 r) fun p=>p=a) (he:ze r):q6 r=.ok a r1∧zH 1 r r1:=by
 obtain⟨a',h2⟩:=un_ok h;have hF:=xC he;rw[h2]at hg hF;obtain rfl:a'=a:=hg;exact⟨h2,hF⟩
theorem un_fits {α:Type} {k:Nat} {l:List Tok} {x:PR α} (h:zY k l x):zY k l x.un:=by
 cases x with
 | ok a r=>exact h
 | bad r=>exact h
 | deep r=>exact h
 | out=>trivial
theorem rvalue_is (s:ByteArray) (nv:Int) (w:World) (hs:s.size≤281474976710656) (hn:jm s.data.toList=true) (h:nv=(jd 0 s.data.toList:Nat)):
 Calls Tryz.prog 43 #[.string s] w fun e w'=>e=.returned (.int .i64 nv)∧w=w':=by
 subst h;exact rvalue_num s w hs hn
set_option maxHeartbeats 6400000 in
theorem zAh {b:Nat} {V:Value} {all:List Tok} {n:Nat} {x:PR Unit} {w:World} (h:qx b V all x w) (hn:zG (x.bind fun _ r=>uY n ⟨[],[]⟩ r)):
 Calls Tryz.prog 16 #[.pointer (some ⟨b,0,none⟩)] w (qF b V all w (x.bind fun _ r=>uY n ⟨[],[]⟩ r) (FrG w.heap.size)):=by
 obtain⟨T,hT⟩:∃ T,(x.bind fun _ r=>uY n ⟨[],[]⟩ r)=T:=⟨_,rfl⟩
 rw[hT]at hn ⊢;have HTE:=hid hn;have HT0:=hid hT.symm;have HP:=hid (show PgAt b V all w x ((w.alloc pgBox).alloc pgBox) (.slice none 0 0) (.slice none 0 0) [] [] from⟨CurP.start h,OutK.nil _ _ _,OutK.nil _ _ _,fun _=>rfl⟩);have hbw:=h.lt;clear h hn hT;go_enter Tryz.func16,Tryz.ntmps16;go_wp2
 go_loopw [4] (fun _ wr=>PgRel b V all w T n wr) (fun _ wr=>2 * (all.length-xG b wr)+xy b wr)
 case atStart=>exact⟨n,[],[],x,_,_,Nat.le_refl _,HP.out,HT0.out,fun _=>Nat.zero_le _,by simp⟩
 case round=>
  obtain⟨i0,hi0,hz0,hz1,hz2⟩:=info_parts ar_info;have HI0:=hid (And.intro hi0 (And.intro hz0 (And.intro hz1 hz2)));obtain⟨i1,hi1,hy0,hy1,hy2⟩:=info_parts fu_info;have HI1:=hid (And.intro hi1 (And.intro hy0 (And.intro hy1 hy2)));clear hi0 hz0 hz1 hz2 hi1 hy0 hy1 hy2;obtain⟨m,ars,fs,y,va,vf,hmn,hP,hT,hacc,hac2⟩:=hrel;replace HP:=hid hP;cases ho:zg y with
  | true=>
    have HTT:=hid (show T=y.bind fun _ r=>.ok ⟨ars,fs.map (·.f)⟩ r from hT.trans (vk ho _ _));have HOV:=hid ho;obtain⟨r0,bd,dp,hp,_,_⟩:=hP.cur.st.box;obtain⟨g,c,k,t,q,rfl,rfl,hk,hklt,hl,b0,b1,b2,b3,t0,t1,t2⟩:=hp.tok;have hklt2:(k:Int)<all.length:=by omega
    clear hk hp ho hT hacc hP;go_wp2
    go_quiet ((go_at_call 39;exact Calls.quiet_of_same (zl (HP.out.drewN _).cur.st true HOV.out)))
    replace HP:=hid (HP.out.drewN nq);clear b0 b1 b2 b3 t0 t1 t2;obtain⟨⟨p0,p1⟩,pz⟩:=HP.out.cur.f;obtain⟨⟨q0,q1⟩,qz⟩:=HP.out.cur.own;obtain⟨A0,cp0,rfl⟩:=HP.out.arr.form;obtain⟨A1,cp1,rfl⟩:=HP.out.fnc.form;go_wp2_with (fail);obtain⟨f0,f1⟩:=HP.out.cur.read;refine bodyPost_ret (v:=.agg #[.slice A0 ars.length cp0,.slice A1 fs.length cp1]) (by simp[results,Tryz.results16,go_sem,f0,f1]) rfl ?_;exact pg_end HP.out hac2 HTT.out
  | false=>
    obtain⟨r,rfl⟩:∃ r,y=.ok () r:=by
     cases y with
     | ok u r=>exact⟨r,rfl⟩
     | bad r=>cases ho
     | deep r=>cases ho
     | out=>exact absurd hP.cur.st id
    obtain⟨hat,hrl,hal,hen,hrp⟩:=kn hP.cur.did;have hacc9:=hacc rfl;rw[hat]at hacc9;have hlv:=liveN_ok (show zS b V all r false false wr from hP.cur.st)
    obtain⟨q,rfl⟩:∃ q,m=q+1:=by
     cases m with
     | zero=>have h1:=HTE.out;rw[hT]at h1;exact absurd (show zG (uY 0 ⟨ars,fs.map (·.f)⟩ r) from h1) (by rw[uY];exact id)
     | succ q=>exact⟨q,rfl⟩
    have hT2:T=uY (q+1) ⟨ars,fs.map (·.f)⟩ r:=hT;obtain⟨g,c,k,t,tq,rfl,htq,hk,hklt,hl,b0,b1,b2,b3,t0,t1,t2⟩:=(show zS b V all r false false wr from hP.cur.st).tok;have hklt2:(k:Int)<all.length:=by omega
    have hkk:yn r=t.kind:=by rw[htq];rfl
    cases hk3:decide (t.kind=3) with
    | true=>
      have e3:t.kind=3:=of_decide_eq_true hk3;have hk0:(t.kind != 3)=false:=by simpa using hk3
      have HTT:=hid (show T=(PR.ok () r).bind fun _ r=>.ok ⟨ars,fs.map (·.f)⟩ r from hT2.trans (pPr_end (hkk.trans e3)));clear hk ho hT hT2 hacc hP hk3 e3 hlv hat hkk htq hen;go_wp2
      go_quiet ((go_at_call 39;exact Calls.quiet_of_same (zl (HP.out.drewN _).cur.st false rfl)))
      replace HP:=hid (HP.out.drewN nq);clear b0 b1 b2 b3 t0 t1 t2;obtain⟨⟨p0,p1⟩,pz⟩:=HP.out.cur.f;obtain⟨⟨q0,q1⟩,qz⟩:=HP.out.cur.own;obtain⟨A0,cp0,rfl⟩:=HP.out.arr.form;obtain⟨A1,cp1,rfl⟩:=HP.out.fnc.form;go_wp2_with (fail);obtain⟨f0,f1⟩:=HP.out.cur.read;refine bodyPost_ret (v:=.agg #[.slice A0 ars.length cp0,.slice A1 fs.length cp1]) (by simp[results,Tryz.results16,go_sem,f0,f1]) rfl ?_;exact pg_end HP.out hac2 HTT.out
    | false=>
      have e3:¬ t.kind=3:=of_decide_eq_false hk3;have hk0:(t.kind != 3)=true:=by simpa using hk3
      have HT:=hid (hT2.trans (pPr_got (hkk ▸ e3)));have HEN:=hid hen;have HAT:=hid hat;have HLV:=hid hlv;clear hk ho hT hT2 hacc hP hk3 e3 hlv hat hkk htq hen;go_wp2
      go_quiet ((go_at_call 39;exact Calls.quiet_of_same (zl (HP.out.drewN _).cur.st false rfl)))
      replace HP:=hid (HP.out.drewN nq);clear b0 b1 b2 b3 t0 t1 t2
      go_wp2_with (first
       | (go_at_call 40;(with_reducible refine(yR HP.out.cur.st).mono ?_);rintro e w3 ⟨tv0,rfl,hD,hG⟩
          obtain⟨tv,rfl,hG2⟩:=ty_got (r:=r) hG;have HGT:=hid hG2;replace HP:=hid (show PgAt b _ all w (uM r).un w3 _ _ _ _ from HP.out.step hD)
          clear hD hG hG2))
      go_at_call 41
      (with_reducible refine(xB HP.out.cur.st 1 (by decide)).mono ?_)
      rintro e w4 ⟨s',rfl,hD,hG⟩;have HGS:=hid (uV HGT.out hG);replace HP:=hid (show PgAt b _ all w (q6 r).un w4 _ _ _ _ from(parOne_un r).symm ▸ HP.out.step hD);replace HT:=hid (HT.out.trans (got_eq HGS.out _));clear hD hG HGT;have hbw4:=HP.out.cur.st.lt;dsimp only;by_cases hA:tv=1∧fs=[]∧zP [91] (q6 r).un=true
      · obtain⟨rfl,rfl,h91⟩:=hA
        obtain⟨r1,hz,hs1⟩:=yc h91;obtain⟨hp1,hR1⟩:=parOne_live hz HGS.out HEN.out;have hvf:vf=.slice none 0 0:=HP.out.nil rfl;subst hvf
        have hT3:T=(pArr s' r1.tail).bind fun x r=>uY q ⟨ars++[x],[]⟩ r:=by
         rw[HT.out,hz];exact pgK_arr rfl rfl hs1
        rw[hz]at HP;have hR2:zH 1 r r1.tail:=(hR1.trans (zH.sign hR1.2.1 hs1)).mono (by omega);obtain⟨r2,hr2⟩:∃ r2,r2=r1.tail:=⟨_,rfl⟩
        rw[←hr2]at hT3 hR2;have HR2:=hid hr2;have HRR:=hid hR2;have HY:=hid (show zP (⟨#[91]⟩:ByteArray).data.toList (PR.ok () r1)=true from hs1);have HT3:=hid hT3;have HEN2:=hid hR2.2.1;obtain⟨⟨p0,p1⟩,pz⟩:=HP.out.cur.f;clear hz hp1 hR1 hT3 hr2 hR2 hs1 h91;by_cases hnum:yn r2=0
        · obtain⟨sn,hsn⟩:∃ sn:ByteArray,sn=⟨(hdT r2).toArray⟩:=⟨_,rfl⟩
          have HSN:=hid hsn;have HNUM:=hid hnum
          have HNB:=hid (show sn.size≤281474976710656∧jm sn.data.toList=true by
           rw[hsn];have hp2:zS b _ all r1 false false w4:=HP.out.cur.st;have hp3:=(zS.next hp2 (by rw[(vC (show z6 [91] r1=true from HY.out)).1];decide))
           rw[←HR2.out]at hp3;obtain⟨h1,h2,_⟩:=hp3.num hnum
           exact⟨h1,h2⟩)
          obtain⟨nv,hnv⟩:∃ nv:Int,nv=(jd 0 sn.data.toList:Nat):=⟨_,rfl⟩
          have HNV:=hid hnv
          have HTY:=hid (show T=((((PR.ok () r2.tail).bind fun _ r=>zL [93] r).bind fun _ r=>zL [59] r)).un.bind fun _ r=>uY q ⟨ars++[⟨s',nv⟩],([]:List FuV).map (·.f)⟩ r by
           rw[HT3.out,un_unit,hnv,hsn];unfold pArr qP;rw[if_pos hnum];show ((zL [93] r2.tail).bind fun _ r=>(zL [59] r).bind fun _ r=>PR.ok _ r).bind _=((zL [93] r2.tail).bind fun _ r=>zL [59] r).bind _;simp only[zR]
           rfl)
          clear hsn hnum hnv
          go_wp2_with (first
          | (go_at_call 42;(with_reducible refine(zb HP.out.cur.st _ HY.out).mono ?_);rintro e w5 ⟨rfl,hD⟩
             replace HP:=hid (show PgAt b _ all w (.ok () r2) w5 _ _ _ _ by rw[HR2.out];exact HP.out.step hD)
             clear hD)
          | (go_at_call 41;(with_reducible refine(vI HP.out.cur.st 0 (by decide) HNUM.out sn HSN.out).mono ?_);rintro e w6 ⟨rfl,hD⟩
             replace HP:=hid (show PgAt b _ all w (.ok () r2.tail) w6 _ _ _ _ from HP.out.step hD)
             clear hD)
          | (go_at_call 43;(with_reducible refine(rvalue_is sn _ _ HNB.out.1 HNB.out.2 HNV.out).mono ?_);rintro e w6 ⟨rfl,rfl⟩)
          | (go_at_call 44;(with_reducible refine(zW HP.out.cur.st ⟨#[93]⟩).mono ?_);rintro e w7 ⟨rfl,hD⟩
             replace HP:=hid (show PgAt b _ all w ((PR.ok () r2.tail).bind fun _ r=>zL [93] r) w7 _ _ _ _ from HP.out.step hD)
             clear hD)
          | (go_at_call 44;(with_reducible refine(zW HP.out.cur.st ⟨#[59]⟩).mono ?_);rintro e w8 ⟨rfl,hD⟩
             replace HP:=hid (show PgAt b _ all w (((PR.ok () r2.tail).bind fun _ r=>zL [93] r).bind fun _ r=>zL [59] r) w8 _ _ _ _ from HP.out.step hD);obtain⟨⟨p0,p1⟩,pz⟩:=HP.out.cur.f;obtain⟨A0,cp0,rfl⟩:=HP.out.arr.form;have HPRE:=hid (HP.out.arr.pre [.string s',.int .i64 (nv)] (by have:=HP.out.cur.size;omega))
             clear hD)
          | (at_builtin;refine zw rfl (.tmp 48) (.tmp 52) _ rfl (w.heap.size+2) 62 i0 _ 2 24 Tryz.underlying23 HI0.out.1 HI0.out.2.1 HI0.out.2.2.1 HI0.out.2.2.2 rfl (by omega) (.slice A0 ars.length cp0) ars.length _ rfl (by exact HPRE.out.1) ⟨w8.heap.size,0,none⟩ 1 1 [.string s',.int .i64 (nv)] rfl rfl (by exact HPRE.out.2.1) (by simp[Value.oneCell']) (by simp only[maxLen];omega) (by omega) (by exact HPRE.out.2.2) (by omega) ?_
             intro v1 w9 hown1 hg1 hr1;obtain⟨A1,cp1,rfl⟩:=zj hown1;have HX1:=hid (HP.out.array (a:=⟨s',nv⟩) hg1 hr1 hown1);have fz9:=HX1.out.1.f.2;have k9:=HX1.out.1.f.1.1
             clear hown1 hg1 hr1))
          have HZ:=hid (pg_rel (q:=q) (n:=n) (X:=((PR.ok () r2.tail).bind fun _ r=>zL [93] r).bind fun _ r=>zL [59] r) (by omega) (zY.from HRR.out (zY.from (n:=0) (zH.tail HEN2.out (by rw[HNUM.out];decide)) ((zJ (HEN2.out.tail (by rw[HNUM.out];decide)) _).bind (m:=0) (n:=0) (fun _ r _ hr=>(zJ hr _).mono (by omega)) (by omega)) (by omega)) (by omega)) (un_unit (((PR.ok () r2.tail).bind fun _ r=>zL [93] r).bind fun _ r=>zL [59] r) ▸ HX1.out.2) HTY.out hrl hrp (by simp at hacc9 ⊢;omega) hal);go_roundw
          case rel=>exact HZ.out.1
          case measure=>
           have h1:=HZ.out.2;have h2:=HAT.out;have h3:=HLV.out;simp only[h2,h3]at *;omega
        · have HNUM:=hid hnum
          have HTY:=hid (show T=((((PR.bad r2:PR Unit).bind fun _ r=>zL [93] r).bind fun _ r=>zL [59] r)).un.bind fun _ r=>uY q ⟨ars++[⟨s',-1⟩],([]:List FuV).map (·.f)⟩ r by
           rw[HT3.out];unfold pArr qP;rw[if_neg hnum]
           rfl)
          clear hnum
          go_wp2_with (first
          | (go_at_call 42;(with_reducible refine(zb HP.out.cur.st _ HY.out).mono ?_);rintro e w5 ⟨rfl,hD⟩
             replace HP:=hid (show PgAt b _ all w (.ok () r2) w5 _ _ _ _ by rw[HR2.out];exact HP.out.step hD)
             clear hD)
          | (go_at_call 41;(with_reducible refine(text_nil HP.out.cur.st 0 HNUM.out).mono ?_);rintro e w6 ⟨rfl,hD⟩
             replace HP:=hid (show PgAt b _ all w (.bad r2) w6 _ _ _ _ from HP.out.step hD)
             clear hD)
          | (go_at_call 43;(with_reducible refine(rvalue_nil _).mono ?_);rintro e w6 ⟨rfl,rfl⟩)
          | (go_at_call 44;(with_reducible refine(zW HP.out.cur.st ⟨#[93]⟩).mono ?_);rintro e w7 ⟨rfl,hD⟩
             replace HP:=hid (show PgAt b _ all w ((PR.bad r2:PR Unit).bind fun _ r=>zL [93] r) w7 _ _ _ _ from HP.out.step hD)
             clear hD)
          | (go_at_call 44;(with_reducible refine(zW HP.out.cur.st ⟨#[59]⟩).mono ?_);rintro e w8 ⟨rfl,hD⟩
             replace HP:=hid (show PgAt b _ all w (((PR.bad r2:PR Unit).bind fun _ r=>zL [93] r).bind fun _ r=>zL [59] r) w8 _ _ _ _ from HP.out.step hD);obtain⟨⟨p0,p1⟩,pz⟩:=HP.out.cur.f;obtain⟨A0,cp0,rfl⟩:=HP.out.arr.form;have HPRE:=hid (HP.out.arr.pre [.string s',.int .i64 (-1)] (by have:=HP.out.cur.size;omega))
             clear hD)
          | (at_builtin;refine zw rfl (.tmp 48) (.tmp 52) _ rfl (w.heap.size+2) 62 i0 _ 2 24 Tryz.underlying23 HI0.out.1 HI0.out.2.1 HI0.out.2.2.1 HI0.out.2.2.2 rfl (by omega) (.slice A0 ars.length cp0) ars.length _ rfl (by exact HPRE.out.1) ⟨w8.heap.size,0,none⟩ 1 1 [.string s',.int .i64 (-1)] rfl rfl (by exact HPRE.out.2.1) (by simp[Value.oneCell']) (by simp only[maxLen];omega) (by omega) (by exact HPRE.out.2.2) (by omega) ?_
             intro v1 w9 hown1 hg1 hr1;obtain⟨A1,cp1,rfl⟩:=zj hown1;have HX1:=hid (HP.out.array (a:=⟨s',-1⟩) hg1 hr1 hown1);have fz9:=HX1.out.1.f.2;have k9:=HX1.out.1.f.1.1
             clear hown1 hg1 hr1))
          have HZ:=hid (pg_rel (q:=q) (n:=n) (X:=((PR.bad r2:PR Unit).bind fun _ r=>zL [93] r).bind fun _ r=>zL [59] r) (by omega) (show zH 0 r r2 from HRR.out.mono (by omega)) (un_unit (((PR.bad r2:PR Unit).bind fun _ r=>zL [93] r).bind fun _ r=>zL [59] r) ▸ HX1.out.2) HTY.out hrl hrp (by simp at hacc9 ⊢;omega) hal);go_roundw
          case rel=>exact HZ.out.1
          case measure=>
           have h1:=HZ.out.2;have h2:=HAT.out;have h3:=HLV.out;simp only[h2,h3]at *;omega
      · have hT4:=HT.out.trans (pgK_fn (q:=q) (p:=⟨ars,fs.map (·.f)⟩) (a:=⟨s',tv⟩) (z:=(q6 r).un) (fun h=>hA ⟨h.1,by simpa using h.2.1,h.2.2⟩))
        have HT4:=hid hT4;have HNF:=hid (show zG ((q6 r).un.bind fun _ r=>pFn q tv s' r) by have h1:=HTE.out;rw[hT4]at h1;exact zo h1);clear hT4;obtain⟨⟨p0,p1⟩,pz⟩:=HP.out.cur.f;by_cases h1:tv=1
        · subst h1
          cases fs with
          | nil=>
            have hvf:vf=.slice none 0 0:=HP.out.nil rfl;subst hvf;obtain⟨fs,hfs⟩:∃ fs:List FuV,fs=[]:=⟨_,rfl⟩
            rw[←hfs]at HP HT4 hacc9 hac2;clear hfs
            have HY:=hid (show zP (⟨#[91]⟩:ByteArray).data.toList (q6 r).un=false by
             cases h:zP [91] (q6 r).un with
             | true=>exact absurd ⟨rfl,rfl,h⟩ hA
             | false=>rfl)
            clear hA
            go_wp2_with (first
             | (go_at_call 42;(with_reducible refine(zF HP.out.cur.st _ HY.out).mono ?_);rintro e w5 ⟨rfl,hD⟩
                replace HP:=hid (HP.out.step hD);obtain⟨⟨p0,p1⟩,pz⟩:=HP.out.cur.f
                clear hD))
            have HPO:=hid HP.out.fnc.own
            go_region_law (first
             | (refine jP rfl (.tmp 56) (.tmp 61) _ rfl (w.heap.size+2) 45 i1 _ 4 72 Tryz.underlying24 HI1.out.1 HI1.out.2.1 HI1.out.2.2.1 HI1.out.2.2.2 rfl (by omega) (.slice none 0 0) fs.length _ rfl (by exact HPRE.out.1) ⟨w6.heap.size,0,none⟩ 1 1 [.string sF,.int .i64 tF,.slice A2 m2 q2,.slice A3 m3 q3] rfl rfl (by exact HPRE.out.2.1) (by simp[Value.oneCell']) (by simp only[maxLen];omega) (by omega) (by exact HPRE.out.2.2) (by omega) ?_
                intro v1 w7 hown1 hg1 hr1;obtain⟨A4,cp4,rfl⟩:=zj hown1;have HX1:=hid (HP6.out.func (L:=w5.heap.size) hg1 hr1 hown1 HL6.out fun k hk=>(HPO.out k hk).1);have hk7:w7.cell? ⟨w.heap.size+1,1,none⟩=some (.slice none 0 0):=HX1.out.1.f.1.2;have fz7:=HX1.out.1.f.2
                clear hown1 hg1 hr1)
             | (go_simp;go_at_call 45;(refine(pfn_any HP.out.drew.cur.st HNF.out).mono ?_);rintro e w6 ⟨v,rfl,hD,hG⟩
                obtain⟨sF,tF,A2,m2,q2,A3,m3,q3,rfl⟩:=gotf_form hG HNF.out;have HG:=hid hG;have HP6:=hid (HP.out.drew.step hD);have HL6:=hid (show w.heap.size+2≤w5.heap.size from HP.out.cur.size);have hk7:w6.cell? ⟨w.heap.size+1,1,none⟩=some (.slice none 0 0):=HP6.out.cur.f.1.2;have hk8:(w6.alloc (.cells #[.string sF,.int .i64 tF,.slice A2 m2 q2,.slice A3 m3 q3] 45)).cell? ⟨w.heap.size+1,1,none⟩=some (.slice none 0 0):=(HP6.out.cur.alloc _).f.1.2;have fz6:=HP6.out.cur.f.2;have HPRE:=hid (HP6.out.fnc.pre [.string sF,.int .i64 tF,.slice A2 m2 q2,.slice A3 m3 q3] (by have:=HP6.out.cur.size;omega))
                clear hD hG))
            all_goals
             go_wp2;have HGP:=hid (got_pick HG.out HNF.out)
             have HZ:=hid (show PgRel b _ all w T n _∧2 * (all.length-xG b _)+xy b _<2 * r.length+1 by
              obtain⟨f,hf,hF⟩:=HGP.out;obtain⟨qf,hqf,hP9⟩:=HX1.out.2 f hf;refine pg_rel (q:=q) (X:=(q6 r).un.bind fun _ r=>pFn q 1 s' r) (by omega) ?_ hP9 ?_ hrl hrp (by simp at hacc9 ⊢;omega) hal
              · exact(un_fits (xC HEN.out)).bind (m:=0) (fun _ r _ hr=>(vE hr).mono (by omega)) (by omega)
              · rw[HT4.out,hF,List.map_append,←hqf]
                rfl)
             go_roundw
             case rel=>exact HZ.out.1
             case measure=>
              have h1:=HZ.out.2;have h2:=HAT.out;have h3:=HLV.out;simp only[h2,h3]at *;omega
          | cons f0 ft=>
            obtain⟨fs,hfs⟩:∃ fs,fs=f0 :: ft:=⟨_,rfl⟩
            have hfl:0<fs.length:=by rw[hfs];simp
            rw[←hfs]at HP HT4 hacc9 hac2;have hfl2:((fs.length:Int) == 0)=false:=by rw[beq_eq_false_iff_ne];omega
            obtain⟨A1,cp1,rfl⟩:=HP.out.fnc.form;clear hA hfs;go_wp2_with (fail);have HPO:=hid HP.out.fnc.own
            go_region_law (first
             | (refine jP rfl (.tmp 56) (.tmp 61) _ rfl (w.heap.size+2) 45 i1 _ 4 72 Tryz.underlying24 HI1.out.1 HI1.out.2.1 HI1.out.2.2.1 HI1.out.2.2.2 rfl (by omega) (.slice A1 fs.length cp1) fs.length _ rfl (by exact HPRE.out.1) ⟨w6.heap.size,0,none⟩ 1 1 [.string sF,.int .i64 tF,.slice A2 m2 q2,.slice A3 m3 q3] rfl rfl (by exact HPRE.out.2.1) (by simp[Value.oneCell']) (by simp only[maxLen];omega) (by omega) (by exact HPRE.out.2.2) (by omega) ?_
                intro v1 w7 hown1 hg1 hr1;obtain⟨A4,cp4,rfl⟩:=zj hown1;have HX1:=hid (HP6.out.func (L:=w4.heap.size) hg1 hr1 hown1 HL6.out fun k hk=>(HPO.out k hk).1);have hk7:w7.cell? ⟨w.heap.size+1,1,none⟩=some (.slice A1 fs.length cp1):=HX1.out.1.f.1.2;have fz7:=HX1.out.1.f.2
                clear hown1 hg1 hr1)
             | (go_simp;go_at_call 45;(refine(pfn_any HP.out.drew.cur.st HNF.out).mono ?_);rintro e w6 ⟨v,rfl,hD,hG⟩
                obtain⟨sF,tF,A2,m2,q2,A3,m3,q3,rfl⟩:=gotf_form hG HNF.out;have HG:=hid hG;have HP6:=hid (HP.out.drew.step hD);have HL6:=hid (show w.heap.size+2≤w4.heap.size from HP.out.cur.size);have hk7:w6.cell? ⟨w.heap.size+1,1,none⟩=some (.slice A1 fs.length cp1):=HP6.out.cur.f.1.2;have hk8:(w6.alloc (.cells #[.string sF,.int .i64 tF,.slice A2 m2 q2,.slice A3 m3 q3] 45)).cell? ⟨w.heap.size+1,1,none⟩=some (.slice A1 fs.length cp1):=(HP6.out.cur.alloc _).f.1.2;have fz6:=HP6.out.cur.f.2;have HPRE:=hid (HP6.out.fnc.pre [.string sF,.int .i64 tF,.slice A2 m2 q2,.slice A3 m3 q3] (by have:=HP6.out.cur.size;omega))
                clear hD hG))
            all_goals
             go_wp2;have HGP:=hid (got_pick HG.out HNF.out)
             have HZ:=hid (show PgRel b _ all w T n _∧2 * (all.length-xG b _)+xy b _<2 * r.length+1 by
              obtain⟨f,hf,hF⟩:=HGP.out;obtain⟨qf,hqf,hP9⟩:=HX1.out.2 f hf;refine pg_rel (q:=q) (X:=(q6 r).un.bind fun _ r=>pFn q 1 s' r) (by omega) ?_ hP9 ?_ hrl hrp (by simp at hacc9 ⊢;omega) hal
              · exact(un_fits (xC HEN.out)).bind (m:=0) (fun _ r _ hr=>(vE hr).mono (by omega)) (by omega)
              · rw[HT4.out,hF,List.map_append,←hqf]
                rfl)
             go_roundw
             case rel=>exact HZ.out.1
             case measure=>
              have h1:=HZ.out.2;have h2:=HAT.out;have h3:=HLV.out;simp only[h2,h3]at *;omega
        · have h1b:(tv == 1)=false:=by simpa using h1
          obtain⟨A1,cp1,rfl⟩:=HP.out.fnc.form;clear hA h1;go_wp2_with (fail);have HPO:=hid HP.out.fnc.own
          go_region_law (first
           | (refine jP rfl (.tmp 56) (.tmp 61) _ rfl (w.heap.size+2) 45 i1 _ 4 72 Tryz.underlying24 HI1.out.1 HI1.out.2.1 HI1.out.2.2.1 HI1.out.2.2.2 rfl (by omega) (.slice A1 fs.length cp1) fs.length _ rfl (by exact HPRE.out.1) ⟨w6.heap.size,0,none⟩ 1 1 [.string sF,.int .i64 tF,.slice A2 m2 q2,.slice A3 m3 q3] rfl rfl (by exact HPRE.out.2.1) (by simp[Value.oneCell']) (by simp only[maxLen];omega) (by omega) (by exact HPRE.out.2.2) (by omega) ?_
              intro v1 w7 hown1 hg1 hr1;obtain⟨A4,cp4,rfl⟩:=zj hown1;have HX1:=hid (HP6.out.func (L:=w4.heap.size) hg1 hr1 hown1 HL6.out fun k hk=>(HPO.out k hk).1);have hk7:w7.cell? ⟨w.heap.size+1,1,none⟩=some (.slice A1 fs.length cp1):=HX1.out.1.f.1.2;have fz7:=HX1.out.1.f.2
              clear hown1 hg1 hr1)
           | (go_simp;go_at_call 45;(refine(pfn_any HP.out.drew.cur.st HNF.out).mono ?_);rintro e w6 ⟨v,rfl,hD,hG⟩
              obtain⟨sF,tF,A2,m2,q2,A3,m3,q3,rfl⟩:=gotf_form hG HNF.out;have HG:=hid hG;have HP6:=hid (HP.out.drew.step hD);have HL6:=hid (show w.heap.size+2≤w4.heap.size from HP.out.cur.size);have hk7:w6.cell? ⟨w.heap.size+1,1,none⟩=some (.slice A1 fs.length cp1):=HP6.out.cur.f.1.2;have hk8:(w6.alloc (.cells #[.string sF,.int .i64 tF,.slice A2 m2 q2,.slice A3 m3 q3] 45)).cell? ⟨w.heap.size+1,1,none⟩=some (.slice A1 fs.length cp1):=(HP6.out.cur.alloc _).f.1.2;have fz6:=HP6.out.cur.f.2;have HPRE:=hid (HP6.out.fnc.pre [.string sF,.int .i64 tF,.slice A2 m2 q2,.slice A3 m3 q3] (by have:=HP6.out.cur.size;omega))
              clear hD hG))
          all_goals
           go_wp2;have HGP:=hid (got_pick HG.out HNF.out)
           have HZ:=hid (show PgRel b _ all w T n _∧2 * (all.length-xG b _)+xy b _<2 * r.length+1 by
            obtain⟨f,hf,hF⟩:=HGP.out;obtain⟨qf,hqf,hP9⟩:=HX1.out.2 f hf;refine pg_rel (q:=q) (X:=(q6 r).un.bind fun _ r=>pFn q tv s' r) (by omega) ?_ hP9 ?_ hrl hrp (by simp at hacc9 ⊢;omega) hal
            · exact(un_fits (xC HEN.out)).bind (m:=0) (fun _ r _ hr=>(vE hr).mono (by omega)) (by omega)
            · rw[HT4.out,hF,List.map_append,←hqf]
              rfl)
           go_roundw
           case rel=>exact HZ.out.1
           case measure=>
            have h1:=HZ.out.2;have h2:=HAT.out;have h3:=HLV.out;simp only[h2,h3]at *;omega
end Go.Proofs.YtfghofifjnbicaaGreatDoor
