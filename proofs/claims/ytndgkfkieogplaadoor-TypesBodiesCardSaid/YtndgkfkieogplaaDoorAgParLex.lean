import Derived.Test.YtndgkfkieogplaaDoorAgParBack
import Derived.Test.YtndgkfkieogplaaDoorAgParMath
set_option linter.unusedSimpArgs false
set_option linter.unusedVariables false
set_option maxRecDepth 100000
/- Texts of trees, told into tokens: no Go, no program. -/
namespace Go.Proofs.YtndgkfkieogplaaDoor
open Lib (hid)
open Go.RowKit
def AW (r:List UInt8):Prop:=∀ c q,r=c :: q→zd c=false
def XS (r:List UInt8):Prop:=∀ c q,r=c :: q→c≠61∧c≠60∧c≠62∧c≠38∧c≠124∧c≠47
theorem qo {c:UInt8} {q:List UInt8} (h:zd c=false):AW (c :: q):=fun _ _ e=>by injection e with e _;exact e ▸ h
theorem ke {c:UInt8} {q:List UInt8} (h:c≠61∧c≠60∧c≠62∧c≠38∧c≠124∧c≠47):XS (c :: q):=fun _ _ e=>by injection e with e _;exact e ▸ h
theorem span_aw {t r:List UInt8} (ht:t.all zd=true) (hr:AW r):(t++r).takeWhile zd=t:=by
 rw[List.takeWhile_append_of_pos (fun a ha=>List.all_eq_true.1 ht a ha)]
 cases r with
 | nil=>simp
 | cons c q=>rw[List.takeWhile_cons_of_neg (by rw[hr c q rfl];decide),List.append_nil]
theorem aln_gap {c:UInt8} {r:List UInt8} (h:zd c=true):uk (c :: r)=0:=by
 have h47:c≠47:=fun e=>by rw[e]at h;revert h;decide
 have hb:xS c=false:=by
  simp[zd,vW,jG]at h
  simp[xS]
  omega
 unfold uk
 rw[if_neg,List.takeWhile_cons_of_neg (by rw[hb];decide)]
 · rfl
 · intro hc
   obtain⟨q,e⟩:=xT hc
   injection e with e _
   exact h47 e
theorem lex_aln {t r:List UInt8} {k:Int} (hne:t≠[]) (ha:t.all zd=true) (hk:jR t=some k) (hr:AW r) (ln:Nat):zN (t++r) ln=(⟨k,t,ln⟩ :: (zN r ln).1,(zN r ln).2):=by
 obtain⟨c,q,rfl⟩:=List.exists_cons_of_ne_nil hne
 have hc:zd c=true:=by rw[List.all_cons,Bool.and_eq_true]at ha;exact ha.1
 have ho:one (c :: (q++r))=some (k,c :: q):=by
  have hs:=span_aw ha hr
  rw[List.cons_append]at hs
  unfold one
  rw[hs,if_pos hne,hk]
  rfl
 rw[List.cons_append,scan_step (aln_gap hc),ho]
 simp
theorem sign_free2 (t:List UInt8) (h:t ∈ zn) (r:List UInt8) (hr:XS r):(t++r).takeWhile zd=[]∧kQ (t++r)=t∧t≠[]∧uk (t++r)=0:=by
 simp only[zn,signs2,signs1,List.mem_cons,List.mem_append,List.not_mem_nil,or_false]at h
 cases r with
 | nil=>
   rcases h with rfl | (rfl | rfl | rfl | rfl | rfl | rfl | rfl | rfl) | rfl | rfl | rfl | rfl | rfl | rfl | rfl | rfl | rfl | rfl | rfl | rfl | rfl | rfl | rfl | rfl | rfl | rfl | rfl | rfl | rfl
   all_goals exact⟨rfl,rfl,by simp,rfl⟩
 | cons c q=>
   obtain⟨h1,h2,h3,h4,h5,h6⟩:=hr c q rfl
   have b1:(61 == c)=false:=by simpa using Ne.symm h1
   have b2:(60 == c)=false:=by simpa using Ne.symm h2
   have b3:(62 == c)=false:=by simpa using Ne.symm h3
   have b4:(38 == c)=false:=by simpa using Ne.symm h4
   have b5:(124 == c)=false:=by simpa using Ne.symm h5
   have b6:(47 == c)=false:=by simpa using Ne.symm h6
   rcases h with rfl | (rfl | rfl | rfl | rfl | rfl | rfl | rfl | rfl) | rfl | rfl | rfl | rfl | rfl | rfl | rfl | rfl | rfl | rfl | rfl | rfl | rfl | rfl | rfl | rfl | rfl | rfl | rfl | rfl | rfl
   all_goals refine⟨rfl,?_,by simp,?_⟩
   all_goals first
    | rfl
    | (unfold kQ;simp only[zn,signs2,signs1,List.cons_append,List.nil_append,List.find?,Lib.hasPrefix,List.isPrefixOf,b1,b2,b3,b4,b5,b6,Bool.and_false,Bool.false_and,Bool.and_true];rfl)
    | (unfold uk;simp only[List.cons_append,List.nil_append,Lib.hasPrefix,List.isPrefixOf,b6,Bool.and_false,Bool.false_and,Bool.and_true];rfl)
theorem yh {t r:List UInt8} (h:t ∈ zn) (hr:XS r) (ln:Nat):zN (t++r) ln=(⟨2,t,ln⟩ :: (zN r ln).1,(zN r ln).2):=by
 obtain⟨h1,h2,h3,h4⟩:=sign_free2 t h r hr
 obtain⟨c,q,rfl⟩:=List.exists_cons_of_ne_nil h3
 rw[List.cons_append]at h1 h2 h4 ⊢
 have ho:one (c :: (q++r))=some (2,c :: q):=by
  unfold one
  rw[h1,if_neg (by simp),h2,if_pos h3]
 rw[scan_step h4,ho]
 simp
def atL (ln:Nat) (t:Tok):Tok:=⟨t.kind,t.text,ln⟩
def Lx (t:List UInt8) (ks:List Tok):Prop:=∀ r ln,AW r→XS r→zN (t++r) ln=(ks.map (atL ln)++(zN r ln).1,(zN r ln).2)
def Hx (t:List UInt8):Prop:=∃ c q,t=c :: q∧c≠61∧c≠60∧c≠62∧c≠38∧c≠124∧c≠47
theorem Hx.xs {t:List UInt8} (h:Hx t) (r:List UInt8):XS (t++r):=by
 obtain⟨c,q,rfl,h⟩:=h
 exact ke h
theorem Hx.app {t:List UInt8} (h:Hx t) (r:List UInt8):Hx (t++r):=by
 obtain⟨c,q,rfl,h⟩:=h
 exact⟨c,q++r,rfl,h⟩
theorem uw {t:List UInt8} (hne:t≠[]) (ha:t.all zd=true):Hx t:=by
 obtain⟨c,q,rfl⟩:=List.exists_cons_of_ne_nil hne
 rw[List.all_cons,Bool.and_eq_true]at ha
 refine⟨c,q,rfl,?_⟩
 have h:=ha.1
 refine⟨?_,?_,?_,?_,?_,?_⟩ <;> (rintro rfl;revert h;decide)
theorem lx_aln {t:List UInt8} {k:Int} (hne:t≠[]) (ha:t.all zd=true) (hk:jR t=some k):Lx t [⟨k,t,0⟩]:=fun _ ln h1 _=>lex_aln hne ha hk h1 ln
theorem kx {s t:List UInt8} {ks:List Tok} (hs:s ∈ zn) (hx:Hx t) (h:Lx t ks):Lx (s++t) (sg s :: ks):=fun r ln h1 h2=>by
 rw[List.append_assoc,yh hs (hx.xs r),h r ln h1 h2]
 rfl
theorem lx_last {s t:List UInt8} {ks:List Tok} (hs:s ∈ zn) (h:Lx t ks) (ha:AW s) (hx:XS s):Lx (t++s) (ks++[sg s]):=fun r ln h1 h2=>by
 have hne:s≠[]:=by
  rintro rfl
  revert hs
  decide
 obtain⟨c,q,rfl⟩:=List.exists_cons_of_ne_nil hne
 have h3:=h ((c :: q)++r) ln (qo (ha c q rfl)) (ke (hx c q rfl))
 rw[List.append_assoc,h3,yh hs h2,List.map_append,List.append_assoc]
 rfl
theorem scan_blank (r:List UInt8) (ln:Nat):zN (32 :: r) ln=zN r ln:=by
 rw[zN,if_neg (by decide),if_pos (by decide)]
theorem aw32 (r:List UInt8):AW (32 :: r):=qo (by decide)
theorem xs32 (r:List UInt8):XS (32 :: r):=ke (by decide)
theorem nameB_parts {l:List UInt8} (h:kK l=true):l≠[]∧l.all zd=true∧jR l=some 1:=by
 have h':=h
 simp only[kK,Bool.and_eq_true,Bool.not_eq_true',decide_eq_true_eq]at h'
 obtain⟨⟨⟨⟨h1,_⟩,_⟩,h4⟩,h5⟩:=h'
 refine⟨fun e=>by rw[e]at h1;simp at h1,h4,?_⟩
 unfold jR
 rw[h5,h]
 rfl
theorem dig_isDig {k:Nat} (h:k<10):jG (UInt8.ofNat (48+k))=true:=by
 unfold jG
 rw[dig_val h]
 simp
 omega
theorem digits_all (u:Nat):(Lib.decDigits u).all jG=true:=by
 induction u using Nat.strongRecOn with
 | ind u ih=>
   rw[Lib.decDigits]
   split
   · rename_i h
     rw[List.all_cons,dig_isDig h,List.all_nil]
     rfl
   · rename_i h
     rw[List.all_append,ih (u / 10) (by omega),List.all_cons,dig_isDig (by omega),List.all_nil]
     rfl
theorem digits_head (u:Nat) (h:0<u):∃ c q,Lib.decDigits u=c :: q∧c≠48:=by
 induction u using Nat.strongRecOn with
 | ind u ih=>
   rw[Lib.decDigits]
   split
   · rename_i h10
     refine⟨_,_,rfl,fun e=>?_⟩
     have:=dig_val h10
     rw[e]at this
     have h48:(48 :UInt8).toNat=48:=rfl
     omega
   · rename_i h10
     obtain⟨c,q,e,hc⟩:=ih (u / 10) (by omega) (by omega)
     exact⟨c,q++_,by rw[e];rfl,hc⟩
theorem isDig_aln {l:List UInt8} (h:l.all jG=true):l.all zd=true:=by
 rw[List.all_eq_true]at h ⊢
 intro x hx
 unfold zd
 rw[h x hx,Bool.or_true]
theorem words_let:∀ t ∈ words,∀ c q,t=c :: q→jG c=false:=by
 intro t ht
 simp only[words,List.mem_cons,List.not_mem_nil,or_false]at ht
 rcases ht with rfl | rfl | rfl | rfl | rfl | rfl | rfl | rfl | rfl | rfl | rfl | rfl | rfl | rfl | rfl | rfl | rfl | rfl
 all_goals (intro c q e;injection e with e _;subst e;decide)
theorem num_parts (n:Int) (h0:0≤n) (h1:n≤9223372036854775807):Lib.itoa n≠[]∧(Lib.itoa n).all zd=true∧jR (Lib.itoa n)=some 0:=by
 obtain⟨u,rfl⟩:=Int.eq_ofNat_of_zero_le h0
 rw[Lib.itoa_nonneg]
 have hd:=digits_all u
 have hv:=decV_digits u
 have hh:Lib.decDigits u=[48]∨∃ c q,Lib.decDigits u=c :: q∧c≠48:=by
  by_cases hu:0<u
  · exact .inr (digits_head u hu)
  · obtain rfl:u=0:=by omega
    exact .inl (by decide+kernel)
 have hne:Lib.decDigits u≠[]:=by
  rcases hh with h | ⟨c,q,h,_⟩ <;> rw[h] <;> simp
 obtain⟨c,q,hcq⟩:=List.exists_cons_of_ne_nil hne
 have hdc:jG c=true:=by rw[hcq,List.all_cons,Bool.and_eq_true]at hd;exact hd.1
 refine⟨hne,isDig_aln hd,?_⟩
 have hw:xJ (Lib.decDigits u)=false:=by
  rw[Bool.eq_false_iff]
  intro hc
  have:=words_let _ (List.contains_iff_mem.1 hc) c q hcq
  rw[hdc]at this
  cases this
 have hnm:kK (Lib.decDigits u)=false:=by
  have hl:vW c=false:=by
   cases hl:vW c with
   | false=>rfl
   | true=>rw[vO c hl]at hdc;cases hdc
  unfold kK
  rw[hcq]
  simp[hl]
 have hnb:kO (Lib.decDigits u)=true:=by
  unfold kO
  rw[hd,hv]
  have e1:(Lib.decDigits u).isEmpty=false:=by rw[hcq];rfl
  have e2:(Lib.decDigits u == [48] || (Lib.decDigits u).headD 0 != 48)=true:=by
   rcases hh with h | ⟨c',q',h,hc⟩
   · rw[h];rfl
   · rw[h];simp[hc]
  rw[e1,e2,decide_eq_true (by omega)]
  rfl
 unfold jR
 rw[hw,hnm,hnb]
 rfl
theorem twoT_sign:∀ op ∈ um,yC op ∈ zn:=by decide+kernel
theorem oneL_sign:∀ op ∈ ones,op<23→yC op ∈ zn:=by decide+kernel
theorem oneT_word:∀ op ∈ ones,23≤op→jR (yC op)=some 2∧(yC op).all zd=true∧yC op≠[]:=by decide+kernel
theorem oneT_hx:∀ op ∈ ones,op<23→∀ c,(yC op).head? =some c→c≠61∧c≠60∧c≠62∧c≠38∧c≠124∧c≠47:=by
 intro op ho h
 simp only[ones,List.mem_cons,List.not_mem_nil,or_false]at ho
 rcases ho with rfl | rfl | rfl | rfl | rfl | rfl | rfl | rfl | rfl
 all_goals first | omega | (intro c hc;injection hc with hc;subst hc;decide+kernel)
theorem cl_in:([41]:List UInt8) ∈ zn:=by decide
theorem op_in:([40]:List UInt8) ∈ zn:=by decide
theorem sq_in:([91]:List UInt8) ∈ zn:=by decide
theorem sc_in:([93]:List UInt8) ∈ zn:=by decide
theorem co_in:([44]:List UInt8) ∈ zn:=by decide
theorem vR {c:UInt8} {q:List UInt8} (h:c≠61∧c≠60∧c≠62∧c≠38∧c≠124∧c≠47):Hx (c :: q):=⟨c,q,rfl,h⟩
theorem lx_paren {t:List UInt8} {ks:List Tok} (hx:Hx t) (h:Lx t ks):Lx (40 :: (t++[41])) (sg [40] :: (ks++[sg [41]])):=
 kx (s:=[40]) op_in (hx.app [41]) (lx_last cl_in h (qo (by decide)) (ke (by decide)))
theorem yy {w t:List UInt8} {k:Int} {ks:List Tok} (hne:w≠[]) (ha:w.all zd=true) (hk:jR w=some k) (haw:∀ r,AW (t++r)) (h:Lx t ks):Lx (w++t) (⟨k,w,0⟩ :: ks):=fun r ln h1 h2=>by
 rw[List.append_assoc,lex_aln hne ha hk (haw r),h r ln h1 h2]
 rfl
theorem kq {t u:List UInt8} {ks js:List Tok} (h:Lx t ks) (k:Lx u js):Lx (t++32 :: u) (ks++js):=fun r ln h1 h2=>by
 have h3:=h (32 :: (u++r)) ln (aw32 _) (xs32 _)
 rw[List.append_assoc,List.cons_append,h3,scan_blank,k r ln h1 h2,List.map_append,List.append_assoc]
theorem ux {s u:List UInt8} {js:List Tok} (hs:s ∈ zn) (k:Lx u js):Lx (s++32 :: u) (sg s :: js):=fun r ln h1 h2=>by
 rw[List.append_assoc,List.cons_append,yh hs (xs32 _),scan_blank,k r ln h1 h2]
 rfl
def PLx (e:Ex):Prop:=Lx (yB e) (kD e)∧Hx (yB e)
theorem par_lx {e:Ex} (h:PLx e) (lev:Int):Lx (opT lev e) (opK lev e)∧Hx (opT lev e):=by
 unfold opT opK parT parK
 split
 · exact⟨lx_paren h.2 h.1,vR (by decide)⟩
 · exact h
theorem xi {s:ByteArray} (h:ud s=true):s.data.toList≠[]∧s.data.toList.all zd=true∧jR s.data.toList=some 1:=nameB_parts h
theorem args_lx:∀ (l:List Ex),(∀ x ∈ l,PLx x)→l≠[]→Lx (qu (l.map yB)) (qn (l.map kD))∧Hx (qu (l.map yB))
 | [],_,h=>absurd rfl h
 | [e],h,_=>h e (by simp)
 | e :: f :: l,h,_=>by
   have ih:=args_lx (f :: l) (fun x hx=>h x (List.mem_cons_of_mem _ hx)) (by simp)
   have he:=h e (by simp)
   refine⟨fun r ln h1 h2=>?_,he.2.app _⟩
   show zN ((yB e++44 :: 32 :: qu ((f :: l).map yB))++r) ln=_
   have h0:=he.1 (44 :: 32 :: (qu ((f :: l).map yB)++r)) ln (qo (by decide)) (ke (by decide))
   have h3:=yh (t:=[44]) (r:=32 :: (qu ((f :: l).map yB)++r)) co_in (xs32 _) ln
   rw[List.append_assoc,show ((44 :: 32 :: qu ((f :: l).map yB))++r)=44 :: 32 :: (qu ((f :: l).map yB)++r) from rfl,h0,show (44 :: 32 :: (qu ((f :: l).map yB)++r))=[44]++32 :: (qu ((f :: l).map yB)++r) from rfl,h3,scan_blank,ih.1 r ln h1 h2]
   show _=(List.map (atL ln) (kD e++sg [44] :: qn ((f :: l).map kD))++_,_)
   rw[List.map_append,List.append_assoc]
   rfl
theorem plx_bool (b:Bool):Lx (boolT b) [⟨2,boolT b,0⟩]∧Hx (boolT b):=by
 cases b
 · exact⟨lx_aln (by decide) (by decide) (by decide+kernel),uw (by decide) (by decide)⟩
 · exact⟨lx_aln (by decide) (by decide) (by decide+kernel),uw (by decide) (by decide)⟩
mutual
theorem ex_lx:∀ (e:Ex) (m:Nat),xU e m=true→exN e=true→PLx e
 | .mk k op n name args,m,hm,hN=>by
   rw[qY]at hm
   rw[uI]at hN
   simp only[Bool.and_eq_true,decide_eq_true_eq]at hm hN
   have hf:=hm.1.2
   have hall:=exs_lx args (m-1) hm.2 hN.2
   unfold PLx
   rw[exT_mk,yO]
   obtain rfl | rfl | rfl | rfl | rfl | rfl | rfl | rfl:=formK_kind hf
   · obtain⟨h0,_,_,_⟩:=formK_num hf
     obtain⟨p1,p2,p3⟩:=num_parts n h0 hN.1
     exact⟨lx_aln p1 p2 p3,uw p1 p2⟩
   · obtain⟨h0,_⟩:=ur hf
     rcases h0 with rfl | rfl
     · exact plx_bool false
     · exact plx_bool true
   · obtain⟨p1,p2,p3⟩:=xi (formE_var hf).1
     exact⟨lx_aln p1 p2 p3,uw p1 p2⟩
   · obtain⟨ho,_,_,h1⟩:=formK_one hf
     obtain⟨a,rfl⟩:=len1 h1
     have ha:=hall a (by simp)
     have hc:=one_cases ho
     have hT:nodeT 4 op n name (exTs [a])=if 23≤op then yC op++40 :: (yB a++[41]) else yC op++opT 11 a:=by rw[xV];rfl
     have hK:nodeK 4 op n name (ue [a])=if 23≤op then sg (yC op) :: sg [40] :: (kD a++[sg [41]]) else sg (yC op) :: opK 11 a:=by rw[ve];rfl
     rw[hT,hK]
     by_cases h23:23≤op
     · rw[if_pos h23,if_pos h23]
       obtain⟨q1,q2,q3⟩:=oneT_word op hc h23
       exact⟨yy q3 q2 q1 (fun r=>qo (by decide)) (lx_paren ha.2 ha.1),(uw q3 q2).app _⟩
     · rw[if_neg h23,if_neg h23]
       have hp:=par_lx ha 11
       refine⟨kx (oneL_sign op hc (by omega)) hp.2 hp.1,?_⟩
       have hne:yC op≠[]:=by
        intro e
        have:=oneL_sign op hc (by omega)
        rw[e]at this
        revert this
        decide
       obtain⟨c,q,hcq⟩:=List.exists_cons_of_ne_nil hne
       have:=oneT_hx op hc (by omega) c (by rw[hcq];rfl)
       rw[hcq]
       exact vR this
   · obtain⟨hl,_,_,h2⟩:=formK_two hf
     obtain⟨a,b,rfl⟩:=len2 h2
     have ha:=par_lx (hall a (by simp)) (z7 op)
     have hb:=par_lx (hall b (by simp)) (z7 op+1)
     have hT:nodeT 5 op n name (exTs [a,b])=opT (z7 op) a++32 :: (yC op++32 :: opT (z7 op+1) b):=by rw[xV];rfl
     have hK:nodeK 5 op n name (ue [a,b])=opK (z7 op) a++sg (yC op) :: opK (z7 op+1) b:=by rw[ve];rfl
     rw[hT,hK]
     exact⟨kq ha.1 (ux (twoT_sign op (two_cases hl)) hb.1),ha.2.app _⟩
   · obtain⟨hn,_,_,h1⟩:=ut hf
     obtain⟨a,rfl⟩:=len1 h1
     have ha:=hall a (by simp)
     obtain⟨p1,p2,p3⟩:=xi hn
     have hT:nodeT 6 op n name (exTs [a])=name.data.toList++91 :: (yB a++[93]):=by rw[xV];rfl
     have hK:nodeK 6 op n name (ue [a])=uH name :: sg [91] :: (kD a++[sg [93]]):=by rw[ve];rfl
     rw[hT,hK]
     exact⟨yy p1 p2 p3 (fun r=>qo (by decide)) (kx (s:=[91]) sq_in (ha.2.app [93]) (lx_last sc_in ha.1 (qo (by decide)) (ke (by decide)))),(uw p1 p2).app _⟩
   · obtain⟨hn,_,_,_⟩:=formE_call hf
     obtain⟨p1,p2,p3⟩:=xi hn
     have hT:nodeT 7 op n name (exTs args)=name.data.toList++40 :: (qu (args.map yB)++[41]):=by
      rw[xV]
      show name.data.toList++40 :: (qu ((args.map fun e=>(e.kind,e.op,yB e)).map (·.2.2))++[41])=_
      rw[List.map_map]
      rfl
     have hK:nodeK 7 op n name (ue args)=uH name :: sg [40] :: (qn (args.map kD)++[sg [41]]):=by
      rw[ve]
      show uH name :: sg [40] :: (qn ((args.map fun e=>(e.kind,e.op,kD e)).map (·.2.2))++[sg [41]])=_
      rw[List.map_map]
      rfl
     rw[hT,hK]
     refine⟨yy p1 p2 p3 (fun r=>qo (by decide)) ?_,(uw p1 p2).app _⟩
     cases args with
     | nil=>exact kx (s:=[40]) op_in (vR (by decide)) (fun r ln h1 h2=>yh (t:=[41]) cl_in h2 ln)
     | cons a l=>
       have hj:=args_lx (a :: l) hall (by simp)
       exact lx_paren hj.2 hj.1
   · exact⟨yy (w:=uZ) (t:=[40,41]) (k:=2) (by decide) (by decide) (by decide+kernel) (fun r=>qo (by decide)) (kx (s:=[40]) op_in (vR (by decide)) (fun r ln h1 h2=>yh (t:=[41]) cl_in h2 ln)),vR (by decide)⟩
theorem exs_lx:∀ (l:List Ex) (m:Nat),zo l m=true→xg l=true→∀ x ∈ l,PLx x
 | [],_,_,_=>fun x h=>by simp at h
 | e :: r,m,hm,hN=>by
   rw[qD,Bool.and_eq_true]at hm
   rw[jB,Bool.and_eq_true]at hN
   exact List.forall_mem_cons.2 ⟨ex_lx e m hm.1 hN.1,exs_lx r m hm.2 hN.2⟩
end
def fl0 (t:Tok):Tok:=⟨t.kind,t.text,0⟩
def fl (l:List Tok):List Tok:=l.map fl0
def PR.fl {α:Type}:PR α→PR α
 | .ok a r=>.ok a (Proofs.YtndgkfkieogplaaDoor.fl r)
 | .bad r=>.bad (Proofs.YtndgkfkieogplaaDoor.fl r)
 | .deep r=>.deep (Proofs.YtndgkfkieogplaaDoor.fl r)
 | .out=>.out
theorem jd (l:List Tok):(fl l).tail=fl l.tail:=by cases l <;> rfl
theorem xB (s:List UInt8) (l:List Tok):z9 s (fl l)=z9 s l:=by cases l <;> rfl
theorem fl_hdK (l:List Tok):yQ (fl l)=yQ l:=by cases l <;> rfl
theorem fl_hdT (l:List Tok):hdT (fl l)=hdT l:=by cases l <;> rfl
theorem fl_opFrom (lev:Int) (l:List Tok):∀ ops,jI lev (fl l) ops=jI lev l ops
 | []=>rfl
 | op :: r=>by rw[jI,jI,xB,fl_opFrom lev l r]
theorem fl_unFrom (l:List Tok):∀ ops,qy (fl l) ops=qy l ops
 | []=>rfl
 | op :: r=>by rw[qy,qy,xB,fl_unFrom l r]
theorem fl_opAt (lev:Int) (l:List Tok):opAt lev (fl l)=opAt lev l:=fl_opFrom lev l um
theorem fl_unAt (l:List Tok):vP (fl l)=vP l:=fl_unFrom l ones
theorem zQ {α β:Type} {x x':PR α} {f g:α→List Tok→PR β} (hx:x'=x.fl) (h:∀ a r,g a (fl r)=(f a r).fl):x'.bind g=(x.bind f).fl:=by
 subst hx
 cases x with
 | ok a r=>exact h a r
 | _=>rfl
theorem qp (s:List UInt8) (l:List Tok):zI s (fl l)=(zI s l).fl:=by
 unfold zI
 rw[xB,jd]
 split <;> rfl
theorem fl_want (k:Int) (l:List Tok):zy k (fl l)=(zy k l).fl:=by
 unfold zy
 rw[fl_hdK,fl_hdT,jd]
 split <;> rfl
theorem fl_expr (n:Nat):(∀ lev d l,pE n lev d (fl l)=(pE n lev d l).fl)∧(∀ lev d a l,pL n lev d a (fl l)=(pL n lev d a l).fl)∧(∀ d l,pU n d (fl l)=(pU n d l).fl)∧(∀ d l,pP n d (fl l)=(pP n d l).fl)∧
 (∀ d s l,pN n d s (fl l)=(pN n d s l).fl)∧(∀ d l,pA n d (fl l)=(pA n d l).fl)∧(∀ d acc l,yq n d acc (fl l)=(yq n d acc l).fl):=by
 induction n with
 | zero=>exact⟨fun _ _ _=>by rw[pE,pE];rfl,fun _ _ _ _=>by rw[pL,pL];rfl,fun _ _=>by rw[pU,pU];rfl,fun _ _=>by rw[pP,pP];rfl,fun _ _ _=>by rw[pN,pN];rfl,fun _ _=>by rw[pA,pA];rfl,fun _ _ _=>by rw[yq,yq];rfl⟩
 | succ n ih=>
   obtain⟨iE,iL,iU,iP,iN,iA,iAL⟩:=ih
   refine⟨fun lev d l=>?_,fun lev d a l=>?_,fun d l=>?_,fun d l=>?_,fun d s l=>?_,fun d l=>?_,fun d acc l=>?_⟩
   · rw[pE,pE]
     split
     · exact iU d l
     · exact zQ (iE _ _ _) fun a r=>iL _ _ _ _
   · rw[pL,pL,fl_opAt,jd]
     split
     · rfl
     · exact zQ (iE _ _ _) fun a r=>iL _ _ _ _
   · rw[pU,pU,fl_unAt,jd]
     split
     · rfl
     · split
       · exact iP d l
       · split
         · exact zQ (qp _ _) fun _ r=>zQ (iE _ _ _) fun e r=>zQ (qp _ _) fun _ r=>rfl
         · exact zQ (iU _ _) fun e r=>rfl
   · rw[pP,pP,jd,fl_hdK,fl_hdT]
     simp only[xB]
     split
     · exact zQ (iE _ _ _) fun e r=>zQ (qp _ _) fun _ r=>rfl
     · split
       · rfl
       · split
         · rfl
         · split
           · exact zQ (qp _ _) fun _ r=>zQ (qp _ _) fun _ r=>rfl
           · split
             · rfl
             · exact zQ (fl_want _ _) fun s r=>iN _ _ _
   · rw[pN,pN,jd]
     simp only[xB]
     split
     · exact zQ (iA _ _) fun es r=>rfl
     · split
       · exact zQ (iE _ _ _) fun e r=>zQ (qp _ _) fun _ r=>rfl
       · rfl
   · rw[pA,pA,jd,xB]
     split
     · rfl
     · exact iAL _ _ _
   · rw[yq,yq]
     refine zQ (iE _ _ _) fun e r=>?_
     rw[xB,jd]
     split
     · exact iAL _ _ _
     · exact zQ (qp _ _) fun _ r=>rfl
theorem fl_pE (n:Nat) (lev d:Int) (l:List Tok):pE n lev d (fl l)=(pE n lev d l).fl:=(fl_expr n).1 lev d l
theorem fl_pA (n:Nat) (d:Int) (l:List Tok):pA n d (fl l)=(pA n d l).fl:=(fl_expr n).2.2.2.2.2.1 d l
theorem fl_pI (n:Nat) (l:List Tok):pI n (fl l)=(pI n l).fl:=by
 unfold pI
 exact zQ (qp _ _) fun _ r=>zQ (fl_pE _ _ _ _) fun e r=>zQ (qp _ _) fun _ r=>rfl
theorem fl_pTy (l:List Tok):yt (fl l)=(yt l).fl:=by
 unfold yt
 rw[xB,jd]
 split
 · rfl
 · exact zQ (qp _ _) fun _ r=>rfl
theorem fl_semi {α:Type} {x x':PR α} (h:x'=x.fl):q9 x'=(q9 x).fl:=by
 unfold q9
 exact zQ h fun a r=>zQ (qp _ _) fun _ r=>rfl
theorem fl_pNm (n:Nat) (l:List Tok):pNm n (fl l)=(pNm n l).fl:=by
 unfold pNm
 refine zQ (fl_want _ _) fun s r=>?_
 simp only[xB,jd]
 split
 · exact zQ (fl_pA _ _ _) fun es r=>rfl
 · split
   · exact zQ (fl_pE _ _ _ _) fun e r=>zQ (qp _ _) fun _ r=>zQ (qp _ _) fun _ r=>zQ (fl_pE _ _ _ _) fun f r=>rfl
   · exact zQ (qp _ _) fun _ r=>zQ (fl_pE _ _ _ _) fun e r=>rfl
theorem fl_stmt (n:Nat):(∀ d l,pS n d (fl l)=(pS n d l).fl)∧(∀ d e t l,vV n d e t (fl l)=(vV n d e t l).fl)∧(∀ d l,pB n d (fl l)=(pB n d l).fl)∧(∀ d acc l,yd n d acc (fl l)=(yd n d acc l).fl):=by
 induction n with
 | zero=>exact⟨fun _ _=>by rw[pS,pS];rfl,fun _ _ _ _=>by rw[vV,vV];rfl,fun _ _=>by rw[pB,pB];rfl,fun _ _ _=>by rw[yd,yd];rfl⟩
 | succ n ih=>
   obtain⟨iS,iEl,iB,iBL⟩:=ih
   refine⟨fun d l=>?_,fun d e t l=>?_,fun d l=>?_,fun d acc l=>?_⟩
   · rw[pS,pS]
     simp only[xB,jd]
     split
     · rfl
     · split
       · exact fl_semi (zQ (fl_pTy _) fun t r=>zQ (fl_want _ _) fun s r=>zQ (qp _ _) fun _ r=>zQ (fl_pE _ _ _ _) fun e r=>rfl)
       · split
         · exact zQ (fl_pI _ _) fun e r=>zQ (iB _ _) fun t r=>iEl _ _ _ _
         · split
           · exact zQ (fl_pI _ _) fun e r=>zQ (iB _ _) fun t r=>rfl
           · split
             · exact fl_semi rfl
             · split
               · exact fl_semi rfl
               · split
                 · exact fl_semi (zQ (fl_pE _ _ _ _) fun e r=>rfl)
                 · split
                   · exact fl_semi (zQ (fl_pI _ _) fun e r=>rfl)
                   · exact fl_semi (fl_pNm _ _)
   · rw[vV,vV,xB,jd]
     split
     · exact zQ (iB _ _) fun u r=>rfl
     · rfl
   · rw[pB,pB]
     exact zQ (qp _ _) fun _ r=>iBL _ _ _
   · rw[yd,yd,xB,jd]
     split
     · rfl
     · exact zQ (iS _ _) fun s r=>iBL _ _ _
theorem fl_pPL:∀ (n:Nat) (acc:List Pa) (l:List Tok),yr n acc (fl l)=(yr n acc l).fl
 | 0,_,_=>by rw[yr,yr];rfl
 | n+1,acc,l=>by
   rw[yr,yr]
   refine zQ (fl_pTy _) fun t r=>zQ (fl_want _ _) fun s r=>?_
   rw[xB,jd]
   split
   · exact fl_pPL n _ _
   · exact zQ (qp _ _) fun _ r=>rfl
theorem fl_pPs (n:Nat) (l:List Tok):pPs n (fl l)=(pPs n l).fl:=by
 unfold pPs
 refine zQ (qp _ _) fun _ r=>?_
 rw[xB,jd]
 split
 · rfl
 · exact fl_pPL n _ _
theorem fl_pFn (n:Nat) (t:Int) (s:ByteArray) (l:List Tok):uh n t s (fl l)=(uh n t s l).fl:=by
 unfold uh
 exact zQ (fl_pPs _ _) fun ps r=>zQ ((fl_stmt n).2.2.1 _ _) fun b r=>rfl
theorem fl_pArr (s:ByteArray) (l:List Tok):vc s (fl l)=(vc s l).fl:=by
 unfold vc
 exact zQ (fl_want _ _) fun t r=>zQ (qp _ _) fun _ r=>zQ (qp _ _) fun _ r=>rfl
theorem fl_pPr:∀ (n:Nat) (p:Pr) (l:List Tok),jg n p (fl l)=(jg n p l).fl
 | 0,_,_=>by rw[jg,jg];rfl
 | n+1,p,l=>by
   rw[jg,jg,fl_hdK]
   split
   · rfl
   · refine zQ (fl_pTy _) fun t r=>zQ (fl_want _ _) fun s r=>?_
     rw[xB,jd]
     split
     · exact zQ (fl_pArr _ _) fun a r=>fl_pPr n _ _
     · exact zQ (fl_pFn _ _ _ _) fun f r=>fl_pPr n _ _
theorem fl_len (l:List Tok):(fl l).length=l.length:=by simp[fl]
theorem fl_parseT (l:List Tok):qA (fl l)=(qA l).fl:=by
 unfold qA
 rw[fl_len]
 exact fl_pPr _ _ _
def kB {α:Type} (x y:PR α):Prop:=zG x→y=x
theorem zK {α β:Type} {x y:PR α} {f g:α→List Tok→PR β} (h:kB x y) (k:∀ a r,kB (f a r) (g a r)):kB (x.bind f) (y.bind g):=by
 intro he
 cases x with
 | ok a r=>
   rw[h trivial]
   exact k a r he
 | bad r=>rw[h trivial];rfl
 | deep r=>rw[h trivial];rfl
 | out=>exact absurd he id
theorem zJ {α:Type} (x:PR α):kB x x:=fun _=>rfl
theorem jC {α:Type} (y:PR α):kB .out y:=fun h=>absurd h id
theorem mono_expr (n:Nat):(∀ lev d l,kB (pE n lev d l) (pE (n+1) lev d l))∧(∀ lev d a l,kB (pL n lev d a l) (pL (n+1) lev d a l))∧(∀ d l,kB (pU n d l) (pU (n+1) d l))∧(∀ d l,kB (pP n d l) (pP (n+1) d l))∧
 (∀ d s l,kB (pN n d s l) (pN (n+1) d s l))∧(∀ d l,kB (pA n d l) (pA (n+1) d l))∧(∀ d acc l,kB (yq n d acc l) (yq (n+1) d acc l)):=by
 induction n with
 | zero=>exact⟨fun _ _ _=>by rw[pE];exact jC _,fun _ _ _ _=>by rw[pL];exact jC _,fun _ _=>by rw[pU];exact jC _,fun _ _=>by rw[pP];exact jC _,fun _ _ _=>by rw[pN];exact jC _,fun _ _=>by rw[pA];exact jC _,fun _ _ _=>by rw[yq];exact jC _⟩
 | succ n ih=>
   obtain⟨iE,iL,iU,iP,iN,iA,iAL⟩:=ih
   refine⟨fun lev d l=>?_,fun lev d a l=>?_,fun d l=>?_,fun d l=>?_,fun d s l=>?_,fun d l=>?_,fun d acc l=>?_⟩
   · rw[pE,pE]
     split
     · exact iU d l
     · exact zK (iE _ _ _) fun a r=>iL _ _ _ _
   · rw[pL,pL]
     split
     · exact zJ _
     · exact zK (iE _ _ _) fun a r=>iL _ _ _ _
   · rw[pU,pU]
     split
     · exact zJ _
     · split
       · exact iP d l
       · split
         · exact zK (zJ _) fun _ r=>zK (iE _ _ _) fun e r=>zJ _
         · exact zK (iU _ _) fun e r=>zJ _
   · rw[pP,pP]
     split
     · exact zK (iE _ _ _) fun e r=>zJ _
     · split
       · exact zJ _
       · split
         · exact zJ _
         · split
           · exact zJ _
           · split
             · exact zJ _
             · exact zK (zJ _) fun s r=>iN _ _ _
   · rw[pN,pN]
     split
     · exact zK (iA _ _) fun es r=>zJ _
     · split
       · exact zK (iE _ _ _) fun e r=>zJ _
       · exact zJ _
   · rw[pA,pA]
     split
     · exact zJ _
     · exact iAL _ _ _
   · rw[yq,yq]
     refine zK (iE _ _ _) fun e r=>?_
     split
     · exact iAL _ _ _
     · exact zJ _
theorem mono_pE (n:Nat) (lev d:Int) (l:List Tok):kB (pE n lev d l) (pE (n+1) lev d l):=(mono_expr n).1 lev d l
theorem mono_pA (n:Nat) (d:Int) (l:List Tok):kB (pA n d l) (pA (n+1) d l):=(mono_expr n).2.2.2.2.2.1 d l
theorem mono_pI (n:Nat) (l:List Tok):kB (pI n l) (pI (n+1) l):=by
 unfold pI
 exact zK (zJ _) fun _ r=>zK (mono_pE _ _ _ _) fun e r=>zJ _
theorem mono_semi {α:Type} {x y:PR α} (h:kB x y):kB (q9 x) (q9 y):=by
 unfold q9
 exact zK h fun a r=>zJ _
theorem mono_pNm (n:Nat) (l:List Tok):kB (pNm n l) (pNm (n+1) l):=by
 unfold pNm
 refine zK (zJ _) fun s r=>?_
 split
 · exact zK (mono_pA _ _ _) fun es r=>zJ _
 · split
   · exact zK (mono_pE _ _ _ _) fun e r=>zK (zJ _) fun _ r=>zK (zJ _) fun _ r=>zK (mono_pE _ _ _ _) fun f r=>zJ _
   · exact zK (zJ _) fun _ r=>zK (mono_pE _ _ _ _) fun e r=>zJ _
theorem mono_stmt (n:Nat):(∀ d l,kB (pS n d l) (pS (n+1) d l))∧(∀ d e t l,kB (vV n d e t l) (vV (n+1) d e t l))∧(∀ d l,kB (pB n d l) (pB (n+1) d l))∧(∀ d acc l,kB (yd n d acc l) (yd (n+1) d acc l)):=by
 induction n with
 | zero=>exact⟨fun _ _=>by rw[pS];exact jC _,fun _ _ _ _=>by rw[vV];exact jC _,fun _ _=>by rw[pB];exact jC _,fun _ _ _=>by rw[yd];exact jC _⟩
 | succ n ih=>
   obtain⟨iS,iEl,iB,iBL⟩:=ih
   refine⟨fun d l=>?_,fun d e t l=>?_,fun d l=>?_,fun d acc l=>?_⟩
   · rw[pS,pS]
     split
     · exact zJ _
     · split
       · exact mono_semi (zK (zJ _) fun t r=>zK (zJ _) fun s r=>zK (zJ _) fun _ r=>zK (mono_pE _ _ _ _) fun e r=>zJ _)
       · split
         · exact zK (mono_pI _ _) fun e r=>zK (iB _ _) fun t r=>iEl _ _ _ _
         · split
           · exact zK (mono_pI _ _) fun e r=>zK (iB _ _) fun t r=>zJ _
           · split
             · exact zJ _
             · split
               · exact zJ _
               · split
                 · exact mono_semi (zK (mono_pE _ _ _ _) fun e r=>zJ _)
                 · split
                   · exact mono_semi (zK (mono_pI _ _) fun e r=>zJ _)
                   · exact mono_semi (mono_pNm _ _)
   · rw[vV,vV]
     split
     · exact zK (iB _ _) fun u r=>zJ _
     · exact zJ _
   · rw[pB,pB]
     exact zK (zJ _) fun _ r=>iBL _ _ _
   · rw[yd,yd]
     split
     · exact zJ _
     · exact zK (iS _ _) fun s r=>iBL _ _ _
theorem mono_pPL:∀ (n:Nat) (acc:List Pa) (l:List Tok),kB (yr n acc l) (yr (n+1) acc l)
 | 0,_,_=>by rw[yr];exact jC _
 | n+1,acc,l=>by
   rw[yr,yr]
   refine zK (zJ _) fun t r=>zK (zJ _) fun s r=>?_
   split
   · exact mono_pPL n _ _
   · exact zJ _
theorem mono_pFn (n:Nat) (t:Int) (s:ByteArray) (l:List Tok):kB (uh n t s l) (uh (n+1) t s l):=by
 unfold uh pPs
 refine zK (zK (zJ _) fun _ r=>?_) fun ps r=>zK ((mono_stmt n).2.2.1 _ _) fun b r=>zJ _
 split
 · exact zJ _
 · exact mono_pPL n _ _
theorem mono_pPr:∀ (n:Nat) (p:Pr) (l:List Tok),kB (jg n p l) (jg (n+1) p l)
 | 0,_,_=>by rw[jg];exact jC _
 | n+1,p,l=>by
   rw[jg,jg]
   split
   · exact zJ _
   · refine zK (zJ _) fun t r=>zK (zJ _) fun s r=>?_
     split
     · exact zK (zJ _) fun a r=>mono_pPr n _ _
     · exact zK (mono_pFn _ _ _ _) fun f r=>mono_pPr n _ _
theorem pPr_more {n:Nat} {p:Pr} {l:List Tok} (h:zG (jg n p l)):∀ k,jg (n+k) p l=jg n p l
 | 0=>rfl
 | k+1=>by
   have ih:=pPr_more h k
   rw[show n+(k+1)=n+k+1 by omega,mono_pPr (n+k) p l (by rw[ih];exact h),ih]
end Go.Proofs.YtndgkfkieogplaaDoor
