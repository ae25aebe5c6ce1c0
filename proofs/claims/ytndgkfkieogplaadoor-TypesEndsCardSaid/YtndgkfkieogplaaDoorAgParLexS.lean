import Derived.Test.YtndgkfkieogplaaDoorAgParLex
set_option linter.unusedSimpArgs false
set_option linter.unusedVariables false
set_option maxRecDepth 100000
/- Statements', functions' and programs' texts are told into their tokens: no Go, no program. -/
namespace Go.Proofs.YtndgkfkieogplaaDoor
open Lib (hid)
open Go.RowKit
def Ln (t:List UInt8) (ks:List Tok):Prop:=∀ r ln,∃ ln' ts,zN (t++r) ln=(ts++(zN r ln').1,(zN r ln').2)∧fl ts=fl ks
theorem fl_app (a b:List Tok):fl (a++b)=fl a++fl b:=List.map_append
theorem fl_at (ln:Nat) (l:List Tok):fl (l.map (atL ln))=fl l:=by
 unfold fl
 rw[List.map_map]
 rfl
theorem ln_nil:Ln [] []:=fun _ ln=>⟨ln,[],rfl,rfl⟩
theorem ln_app {t u:List UInt8} {ks js:List Tok} (h:Ln t ks) (k:Ln u js):Ln (t++u) (ks++js):=fun r ln=>by
 obtain⟨l1,t1,e1,f1⟩:=h (u++r) ln
 obtain⟨l2,t2,e2,f2⟩:=k r l1
 exact⟨l2,t1++t2,by rw[List.append_assoc,e1,e2,List.append_assoc],by rw[fl_app,fl_app,f1,f2]⟩
theorem scan_t9 (r:List UInt8) (ln:Nat):zN (9 :: r) ln=zN r ln:=by
 rw[zN,if_neg (by decide),if_pos (by decide)]
theorem scan_n10 (r:List UInt8) (ln:Nat):zN (10 :: r) ln=zN r (ln+1):=by
 rw[zN,if_pos (by decide)]
theorem ln_tab:∀ (n:Nat) {t:List UInt8} {ks:List Tok},Ln t ks→Ln (tabT n++t) ks
 | 0,_,_,h=>h
 | n+1,t,ks,h=>fun r ln=>by
   obtain⟨l1,t1,e1,f1⟩:=ln_tab n h r ln
   refine⟨l1,t1,?_,f1⟩
   show zN (9 :: ((tabT n++t)++r)) ln=_
   rw[scan_t9,e1]
theorem ln_line {t u:List UInt8} {ks js:List Tok} (h:Lx t ks) (k:Ln u js):Ln (t++10 :: u) (ks++js):=fun r ln=>by
 obtain⟨l1,t1,e1,f1⟩:=k r (ln+1)
 have h3:=h (10 :: (u++r)) ln (qo (by decide)) (ke (by decide))
 exact⟨l1,ks.map (atL ln)++t1,by rw[List.append_assoc,List.cons_append,h3,scan_n10,e1,List.append_assoc],by rw[fl_app,fl_app,fl_at,f1]⟩
theorem xX {t:List UInt8} {ks:List Tok} (h:Lx t ks):Ln (t++[10]) ks:=by
 have:=ln_line h ln_nil
 rw[List.append_nil]at this
 exact this
theorem lx_sg {s:List UInt8} (h:s ∈ zn):Lx s [sg s]:=fun _ ln _ h2=>yh h h2 ln
theorem lx_app {t u:List UInt8} {ks js:List Tok} (h:Lx t ks) (k:Lx u js) (ha:∀ r,AW (u++r)) (hx:∀ r,XS (u++r)):Lx (t++u) (ks++js):=fun r ln h1 h2=>by
 rw[List.append_assoc,h _ ln (ha r) (hx r),k r ln h1 h2,List.map_append,List.append_assoc]
theorem se_in:([59]:List UInt8) ∈ zn:=by decide
theorem eq_in:([61]:List UInt8) ∈ zn:=by decide
theorem ob_in:([123]:List UInt8) ∈ zn:=by decide
theorem cb_in:([125]:List UInt8) ∈ zn:=by decide
theorem lx_semi {t:List UInt8} {ks:List Tok} (h:Lx t ks):Lx (t++[59]) (ks++[sg [59]]):=lx_last se_in h (qo (by decide)) (ke (by decide))
theorem lx_set {w e:List UInt8} {x:Tok} {ks:List Tok} (hw:Lx w [x]) (h:Lx e ks):Lx (w++32 :: 61 :: 32 :: (e++[59])) (x :: sg [61] :: (ks++[sg [59]])):=kq hw (ux (s:=[61]) eq_in (lx_semi h))
theorem lx_wd {w:List UInt8} (h:jR w=some 2) (ha:w.all zd=true) (hne:w≠[]):Lx w [sg w]:=lx_aln hne ha h
theorem lx_nm {s:ByteArray} (h:ud s=true):Lx s.data.toList [uH s]:=by
 obtain⟨p1,p2,p3⟩:=xi h
 exact lx_aln p1 p2 p3
theorem ty_lx {t:Int} (h:v8 t=true):Lx (tyT t) [sg (tyT t)]∧Hx (tyT t):=by
 rcases tyT_sg h with⟨_,e⟩ | ⟨_,e⟩ <;> rw[e]
 · exact⟨lx_wd (by decide+kernel) (by decide) (by decide),vR (by decide)⟩
 · exact⟨lx_wd (by decide+kernel) (by decide) (by decide),vR (by decide)⟩
theorem lx_open {t:List UInt8} {ks:List Tok} (hx:Hx t) (h:Lx t ks):Lx (40 :: (t++[41,32,123])) (sg [40] :: (ks++[sg [41],sg [123]])):=
 kx (s:=[40]) op_in (hx.app _) (lx_app h (ux (s:=[41]) (u:=[123]) cl_in (lx_sg ob_in)) (fun _=>qo (by decide)) (fun _=>ke (by decide)))
theorem qw (e:Ex) (l:List Ex):argT (e :: l) 0=yB e:=argT_at (by rfl)
theorem argT_two (a e:Ex) (l:List Ex):argT (a :: e :: l) 1=yB e:=argT_at (by rfl)
theorem ln_cl (t:Nat):Ln (tabT t++[125,10]) [sg [125]]:=ln_tab t (xX (t:=[125]) (lx_sg cb_in))
mutual
theorem st_ln:∀ (s:St) (m t:Nat),stOK s m=true→stN s=true→Ln (stT s t) (stK s)
 | .mk k ty name args thn els,m,t,h,hN=>by
   rw[kL]at h
   rw[stN_mk]at hN
   simp only[Bool.and_eq_true,decide_eq_true_eq]at h hN
   obtain⟨⟨⟨⟨_,hf⟩,ha⟩,ht⟩,he⟩:=h
   obtain⟨⟨hNa,hNt⟩,hNe⟩:=hN
   have iT:=sts_ln thn (m-1) (t+1) ht hNt
   have iE:=sts_ln els (m-1) (t+1) he hNe
   have hx:=exs_lx args 100 ha hNa
   rw[stT_mk,stK]
   refine ln_tab t ?_
   obtain rfl | rfl | rfl | rfl | rfl | rfl | rfl | rfl | rfl | rfl:=uu hf
   · obtain⟨hty,hn,h1,_,_⟩:=formS_1 hf
     obtain⟨e,rfl⟩:=len1 h1
     have hk:kp 1 ty name [e]=tyT ty++32 :: (name.data.toList++32 :: 61 :: 32 :: (yB e++[59])):=by rw[←qw e []];rfl
     rw[hk,qj]
     exact xX (kq (ty_lx hty).1 (lx_set (lx_nm hn) (hx e (by simp)).1))
   · obtain⟨_,hn,h1,_,_⟩:=formS_2 hf
     obtain⟨e,rfl⟩:=len1 h1
     have hk:kp 2 ty name [e]=name.data.toList++32 :: 61 :: 32 :: (yB e++[59]):=by rw[←qw e []];rfl
     rw[hk,qj]
     exact xX (lx_set (lx_nm hn) (hx e (by simp)).1)
   · obtain⟨_,hn,h1,_,_⟩:=formS_3 hf
     obtain⟨a,b,rfl⟩:=len2 h1
     have hk:kp 3 ty name [a,b]=name.data.toList++91 :: (yB a++93 :: 32 :: 61 :: 32 :: (yB b++[59])):=by rw[←qw a [b],←argT_two a b []];rfl
     rw[hk,qj,argK_two]
     obtain⟨p1,p2,p3⟩:=xi hn
     have h1:=ux (s:=[93]) sc_in (ux (s:=[61]) eq_in (lx_semi (hx b (by simp)).1))
     have h2:=lx_app (hx a (by simp)).1 h1 (fun _=>qo (by decide)) (fun _=>ke (by decide))
     exact xX (yy p1 p2 p3 (fun _=>qo (by decide)) (kx (s:=[91]) sq_in ((hx a (by simp)).2.app _) h2))
   · obtain⟨_,_,h1⟩:=formS_4 hf
     obtain⟨e,rfl⟩:=len1 h1
     have hk:kp 4 ty name [e]=sIf++32 :: (40 :: (yB e++[41,32,123])):=by rw[←qw e []];rfl
     rw[hk,qj,if_pos (by rfl)]
     have h2:=kq (lx_wd (w:=sIf) (by decide+kernel) (by decide) (by decide)) (lx_open (hx e (by simp)).2 (hx e (by simp)).1)
     have h3:Ln ((if els.length=0 then [] else tabT t++([125,32,101,108,115,101,32,123]++10 :: xP els (t+1)))++(tabT t++[125,10])) (sg [125] :: elK (kI els) (decide (els.length=0))):=by
      by_cases h0:els.length=0
      · rw[if_pos h0,decide_eq_true h0]
        exact ln_cl t
      · rw[if_neg h0,decide_eq_false h0]
        have h4:Lx ([125]++32 :: (yD++32 :: [123])) (sg [125] :: ([sg yD]++[sg [123]])):=ux (s:=[125]) cb_in (kq (lx_wd (w:=yD) (by decide+kernel) (by decide) (by decide)) (lx_sg ob_in))
        exact ln_app (ln_tab t (ln_line h4 iE)) (ln_cl t)
     have h5:=ln_line h2 (ln_app iT h3)
     have e5:([sg sIf]++sg [40] :: (kD e++[sg [41],sg [123]]))++(kI thn++sg [125] :: elK (kI els) (decide (els.length=0)))=sg sIf :: sg [40] :: (kD e++sg [41] :: sg [123] :: (kI thn++sg [125] :: elK (kI els) (decide (els.length=0)))):=by simp
     rw[e5]at h5
     exact h5
   · obtain⟨_,_,h1,_⟩:=formS_5 hf
     obtain⟨e,rfl⟩:=len1 h1
     have hk:kp 5 ty name [e]=kH++32 :: (40 :: (yB e++[41,32,123])):=by rw[←qw e []];rfl
     rw[hk,qj,if_neg (by decide),if_pos (by rfl)]
     have h2:=kq (lx_wd (w:=kH) (by decide+kernel) (by decide) (by decide)) (lx_open (hx e (by simp)).2 (hx e (by simp)).1)
     have h5:=ln_line h2 (ln_app iT (ln_cl t))
     have e5:([sg kH]++sg [40] :: (kD e++[sg [41],sg [123]]))++(kI thn++[sg [125]])=sg kH :: sg [40] :: (kD e++sg [41] :: sg [123] :: (kI thn++[sg [125]])):=by simp
     rw[e5]at h5
     exact h5
   · exact xX (t:=xd++[59]) (lx_semi (lx_wd (w:=xd) (by decide+kernel) (by decide) (by decide)))
   · exact xX (t:=u6++[59]) (lx_semi (lx_wd (w:=u6) (by decide+kernel) (by decide) (by decide)))
   · obtain⟨_,_,h1,_,_⟩:=formS_89 (.inl rfl) hf
     obtain⟨e,rfl⟩:=len1 h1
     have hk:kp 8 ty name [e]=sRet++32 :: (yB e++[59]):=by rw[←qw e []];rfl
     rw[hk,qj]
     exact xX (kq (lx_wd (w:=sRet) (by decide+kernel) (by decide) (by decide)) (lx_semi (hx e (by simp)).1))
   · obtain⟨_,_,h1,_,_⟩:=formS_89 (.inr rfl) hf
     obtain⟨e,rfl⟩:=len1 h1
     have hk:kp 9 ty name [e]=yN++40 :: (yB e++[41,59]):=by rw[←qw e []];rfl
     rw[hk,qj]
     have h2:=lx_app (hx e (by simp)).1 (kx (s:=[41]) (t:=[59]) cl_in (vR (by decide)) (lx_sg se_in)) (fun _=>qo (by decide)) (fun _=>ke (by decide))
     exact xX (yy (w:=yN) (k:=2) (by decide) (by decide) (by decide+kernel) (fun _=>qo (by decide)) (kx (s:=[40]) op_in ((hx e (by simp)).2.app _) h2))
   · obtain⟨_,_,h1,_,_,_⟩:=formS_10 hf
     obtain⟨e,rfl⟩:=len1 h1
     have hk:kp 10 ty name [e]=yB e++[59]:=by rw[←qw e []];rfl
     rw[hk,qj]
     exact xX (lx_semi (hx e (by simp)).1)
theorem sts_ln:∀ (l:List St) (m t:Nat),zj l m=true→xh l=true→Ln (xP l t) (kI l)
 | [],_,t,_,_=>by
   rw[stsT_nil,stsK_nil]
   exact ln_nil
 | s :: r,m,t,h,hN=>by
   rw[kR,Bool.and_eq_true]at h
   rw[vg,Bool.and_eq_true]at hN
   rw[stsT_cons,stsK_cons]
   exact ln_app (st_ln s m t h.1 hN.1) (sts_ln r m t h.2 hN.2)
end
theorem joins_lx {α:Type} (f:α→List UInt8) (g:α→List Tok):∀ (l:List α),(∀ x ∈ l,Lx (f x) (g x)∧Hx (f x))→l≠[]→Lx (qu (l.map f)) (qn (l.map g))∧Hx (qu (l.map f))
 | [],_,h=>absurd rfl h
 | [e],h,_=>h e (by simp)
 | e :: a :: l,h,_=>by
   have ih:=joins_lx f g (a :: l) (fun x hx=>h x (List.mem_cons_of_mem _ hx)) (by simp)
   have he:=h e (by simp)
   exact⟨lx_app he.1 (ux (s:=[44]) co_in ih.1) (fun _=>qo (by decide)) (fun _=>ke (by decide)),he.2.app _⟩
theorem pa_lx {x:Pa} (h:yM x=true):Lx (paT x) (paK x)∧Hx (paT x):=by
 unfold yM at h
 rw[Bool.and_eq_true]at h
 exact⟨kq (ty_lx h.2).1 (lx_nm h.1),(ty_lx h.2).2.app _⟩
theorem ar_ln {a:Ar} (h:yc a=true):Ln (arT a) (arK a):=by
 unfold yc at h
 simp only[Bool.and_eq_true,decide_eq_true_eq]at h
 obtain⟨p1,p2,p3⟩:=xi h.1
 obtain⟨q1,q2,q3⟩:=num_parts a.size (by omega) (by omega)
 have h1:=lx_app (lx_aln q1 q2 q3) (kx (s:=[93]) (t:=[59]) sc_in (vR (by decide)) (lx_sg se_in)) (fun _=>qo (by decide)) (fun _=>ke (by decide))
 have h2:=yy p1 p2 p3 (fun _=>qo (by decide)) (kx (s:=[91]) sq_in ((uw q1 q2).app _) h1)
 have h3:=xX (kq (lx_wd (w:=x8) (by decide+kernel) (by decide) (by decide)) h2)
 have e3:(x8++32 :: (a.name.data.toList++([91]++(Lib.itoa a.size++([93]++[59])))))++[10]=arT a:=by
  unfold arT x8
  simp
 rw[e3]at h3
 exact h3
theorem fu_ln {f:Fu} (h:xc f=true) (hN:xh f.body=true):Ln (fuT f) (fuK f):=by
 unfold xc at h
 simp only[Bool.and_eq_true,decide_eq_true_eq]at h
 obtain⟨⟨⟨⟨hn,hty⟩,_⟩,hp⟩,hb⟩:=h
 obtain⟨p1,p2,p3⟩:=xi hn
 have h1:Lx (40 :: (qu (f.params.map paT)++[41,32,123])) (sg [40] :: (qn (f.params.map paK)++[sg [41],sg [123]])):=by
  cases hl:f.params with
  | nil=>exact kx (s:=[40]) op_in (vR (by decide)) (ux (s:=[41]) (u:=[123]) cl_in (lx_sg ob_in))
  | cons x l=>
    rw[hl]at hp
    have:=joins_lx paT paK (x :: l) (fun y hy=>pa_lx (List.all_eq_true.1 hp y hy)) (by simp)
    exact lx_open this.2 this.1
 have h2:=kq (ty_lx hty).1 (yy p1 p2 p3 (fun _=>qo (by decide)) h1)
 have h3:=ln_line h2 (ln_app (sts_ln f.body 100 1 hb hN) (xX (t:=[125]) (lx_sg cb_in)))
 have e3:(tyT f.type++32 :: (f.name.data.toList++40 :: (qu (f.params.map paT)++[41,32,123])))++10 :: (xP f.body 1++([125]++[10]))=fuT f:=by
  unfold fuT
  simp
 have e4:([sg (tyT f.type)]++(⟨1,f.name.data.toList,0⟩ :: sg [40] :: (qn (f.params.map paK)++[sg [41],sg [123]])))++(kI f.body++[sg [125]])=fuK f:=by
  unfold fuK uH
  simp
 rw[e3,e4]at h3
 exact h3
theorem ln_flat {α:Type} (f:α→List UInt8) (g:α→List Tok):∀ (l:List α),(∀ x ∈ l,Ln (f x) (g x))→Ln (l.map f).flatten (l.map g).flatten
 | [],_=>ln_nil
 | x :: l,h=>ln_app (h x (by simp)) (ln_flat f g l fun y hy=>h y (List.mem_cons_of_mem _ hy))
theorem pr_ln {p:Pr} (h:prOK p=true) (hN:prN p=true):Ln (prT p) (prK p):=by
 unfold prOK at h
 rw[Bool.and_eq_true]at h
 exact ln_app (ln_flat arT arK p.arrays fun a ha=>ar_ln (List.all_eq_true.1 h.1 a ha)) (ln_flat fuT fuK p.funcs fun f hf=>fu_ln (List.all_eq_true.1 h.2 f hf) (List.all_eq_true.1 hN f hf))
theorem pr_scan {p:Pr} (h:prOK p=true) (hN:prN p=true) (ln:Nat):∃ ts e,zN (prT p) ln=(ts++[e],none)∧e.kind=3∧fl ts=fl (prK p):=by
 obtain⟨l1,ts,e1,f1⟩:=pr_ln h hN [] ln
 rw[List.append_nil,zN]at e1
 exact⟨ts,⟨3,[],l1⟩,e1,rfl,f1⟩
theorem kindT_no3 {t:List UInt8} {k:Int} (h:jR t=some k):k≠3:=by
 unfold jR at h
 split at h
 · injection h with h
   omega
 · split at h
   · injection h with h
     omega
   · split at h
     · injection h with h
       omega
     · cases h
theorem one_no3 {l t:List UInt8} {k:Int} (h:one l=some (k,t)):k≠3:=by
 unfold one at h
 split at h
 · cases hk:jR (l.takeWhile zd) with
   | none=>rw[hk]at h;cases h
   | some j=>
     rw[hk]at h
     injection h with h
     injection h with h _
     exact h ▸ kindT_no3 hk
 · split at h
   · injection h with h
     injection h with h _
     omega
   · cases h
theorem jT:∀ (n:Nat) (l:List UInt8) (line:Nat) (ts:List Tok),l.length≤n→zN l line=(ts,none)→zw ts
 | _,[],line,ts,_,h=>by
   rw[zN]at h
   injection h with h _
   exact⟨[],⟨3,[],line⟩,h.symm,rfl,fun t ht=>by cases ht⟩
 | 0,c :: r,line,ts,h,_=>by simp at h
 | n+1,c :: r,line,ts,hl,h=>by
   simp only[List.length_cons]at hl
   rw[zN]at h
   split at h
   · exact jT n r _ ts (by omega) h
   · split at h
     · exact jT n r _ ts (by omega) h
     · split at h
       · have h1:=List.IsSuffix.length_le (List.dropWhile_suffix (l:=r) (fun d:UInt8=>d.toNat != 10))
         exact jT n _ _ ts (by omega) h
       · split at h
         · cases h
         · rename_i k t hone
           have h1:(r.drop (t.length-1)).length≤r.length:=by rw[List.length_drop];omega
           injection h with e1 e2
           obtain⟨i,e,he,hk,hi⟩:=jT n (r.drop (t.length-1)) line (zN (r.drop (t.length-1)) line).1 (by omega) (by rw[←e2])
           refine⟨⟨k,t,line⟩ :: i,e,by rw[←e1,he];rfl,hk,fun u hu=>?_⟩
           rcases List.mem_cons.1 hu with rfl | hu
           · exact one_no3 hone
           · exact hi u hu
theorem parse_toks {p:Pr} (h:prOK p=true) (hN:prN p=true) {ts:List Tok} {e:Tok} (hE:zw (ts++[e])) (he:e.kind=3) (hf:fl ts=fl (prK p)):∃ r,qA (ts++[e])=.ok p r:=by
 obtain⟨N,hb⟩:=prog_back p h hN e he
 have hb:jg (20 * (ts++[e]).length+40+N) ⟨[],[]⟩ (prK p++[e])=.ok p [e]:=hb _ (by omega)
 have hends:zG (qA (ts++[e])):=xL hE
 have hm:jg (20 * (ts++[e]).length+40+N) ⟨[],[]⟩ (ts++[e])=qA (ts++[e]):=pPr_more hends N
 have e1:fl (ts++[e])=fl (prK p++[e]):=by rw[fl_app,fl_app,hf]
 have h2:=fl_pPr (20 * (ts++[e]).length+40+N) ⟨[],[]⟩ (ts++[e])
 rw[e1,fl_pPr,hb,hm]at h2
 cases hp:qA (ts++[e]) with
 | ok a r=>
   rw[hp]at h2
   injection h2 with h2 _
   exact⟨r,by rw[h2]⟩
 | bad r=>rw[hp]at h2;cases h2
 | deep r=>rw[hp]at h2;cases h2
 | out=>rw[hp]at h2;cases h2
theorem parse_text {p:Pr} (h:prOK p=true) (hN:prN p=true) (ln:Nat):∃ ts r,zN (prT p) ln=(ts,none)∧qA ts=.ok p r:=by
 obtain⟨ts,e,hs,he,hf⟩:=pr_scan h hN ln
 obtain⟨r,hr⟩:=parse_toks h hN (jT _ _ _ _ (Nat.le_refl _) hs) he hf
 exact⟨ts++[e],r,hs,hr⟩
def xR:List Tok→Nat
 | []=>0
 | t :: r=>t.text.length+xR r
def Tk (l:List Tok):Prop:=∀ t ∈ l,(t.kind=1→1≤t.text.length)∧(t.kind=0→(t.text.all jG=true∧1≤t.text.length))
theorem Tk.tail {l:List Tok} (h:Tk l):Tk l.tail:=fun t ht=>h t (List.mem_of_mem_tail ht)
theorem byt_tail (l:List Tok):xR l=(hdT l).length+xR l.tail:=by
 cases l <;> rfl
theorem qN {s:List UInt8} {l:List Tok} (h:z9 s l=true):xR l=s.length+xR l.tail:=by
 rw[byt_tail,(vd h).2]
theorem zC {α β:Type} {x:PR α} {f:α→List Tok→PR β} {b:β} {t:List Tok} (h:x.bind f=.ok b t):∃ a r,x=.ok a r∧f a r=.ok b t:=by
 cases x with
 | ok a r=>exact⟨a,r,rfl,h⟩
 | bad r=>cases h
 | deep r=>cases h
 | out=>cases h
theorem qS {s:List UInt8} {l r:List Tok} {u:Unit} (h:zI s l=.ok u r):xR l=s.length+xR r∧(Tk l→Tk r):=by
 unfold zI at h
 split at h
 · rename_i hs
   injection h with _ h
   exact⟨h ▸ qN hs,fun k=>h ▸ k.tail⟩
 · cases h
theorem uy {l r:List Tok} {s:ByteArray} (h:zy 1 l=.ok s r):xR l=s.size+xR r∧(Tk l→Tk r)∧(Tk l→1≤s.size):=by
 unfold zy at h
 split at h
 · rename_i hk
   injection h with h1 h
   have hs:s.size=(hdT l).length:=by rw[←h1];simp[ByteArray.size]
   refine⟨by rw[hs,←h];exact byt_tail l,fun k=>h ▸ k.tail,fun k=>?_⟩
   rw[hs]
   cases l with
   | nil=>cases hk
   | cons t q=>exact(k t (by simp)).1 hk
 · cases h
theorem opFrom_mem {lev:Int} {l:List Tok}:∀ {ops:List Int},jI lev l ops≠0→jI lev l ops ∈ ops∧z9 (yC (jI lev l ops)) l=true
 | [],h=>absurd rfl h
 | op :: r,h=>by
   rw[jI]at h ⊢
   split at h
   · rename_i hc
     rw[if_pos hc]
     exact⟨by simp,hc.2⟩
   · rename_i hc
     rw[if_neg hc]
     exact⟨List.mem_cons_of_mem _ (opFrom_mem h).1,(opFrom_mem h).2⟩
theorem unFrom_mem {l:List Tok}:∀ {ops:List Int},qy l ops≠0→qy l ops ∈ ops∧z9 (yC (qy l ops)) l=true
 | [],h=>absurd rfl h
 | op :: r,h=>by
   rw[qy]at h ⊢
   split at h
   · rename_i hc
     rw[if_pos hc]
     exact⟨by simp,hc⟩
   · rename_i hc
     rw[if_neg hc]
     exact⟨List.mem_cons_of_mem _ (unFrom_mem h).1,(unFrom_mem h).2⟩
theorem two_len:∀ op ∈ um,1≤(yC op).length∧(yC op).length≤3:=by decide+kernel
theorem un_len:∀ op ∈ ones,1≤(yC op).length∧(yC op).length≤3:=by decide+kernel
theorem digits_len:∀ (n u:Nat),u<10 ^ (n+1)→(Lib.decDigits u).length≤n+1
 | n,u,h=>by
   rw[Lib.decDigits]
   split
   · simp
   · rename_i h10
     cases n with
     | zero=>exact absurd (by simpa using h) h10
     | succ n=>
       have:=digits_len n (u / 10) (by rw[Nat.pow_succ]at h;omega)
       rw[List.length_append]
       simp
       omega
theorem decV_lt:∀ (l:List UInt8) (acc:Nat),l.all jG=true→jH acc l<(acc+1) * 10 ^ l.length
 | [],acc,_=>by rw[vY];simp
 | c :: r,acc,h=>by
   rw[List.all_cons,Bool.and_eq_true]at h
   have hc:c.toNat-48<10:=by
    have:=h.1
    simp[jG]at this
    omega
   rw[decV_cons]
   have ih:=decV_lt r (acc * 10+(c.toNat-48)) h.2
   refine Nat.lt_of_lt_of_le ih ?_
   rw[List.length_cons,Nat.pow_succ,Nat.mul_comm (10 ^ r.length) 10,←Nat.mul_assoc]
   exact Nat.mul_le_mul_right _ (by omega)
theorem num_len {l:List UInt8} (h:l.all jG=true) (h1:1≤l.length):(Lib.itoa ((jH 0 l:Nat):Int)).length≤l.length:=by
 rw[Lib.itoa_nonneg]
 have:=decV_lt l 0 h
 obtain⟨n,hn⟩:∃ n,l.length=n+1:=⟨l.length-1,by omega⟩
 rw[hn]at this ⊢
 exact digits_len n _ (by omega)
theorem bsz (s:ByteArray):s.data.toList.length=s.size:=Array.length_toList
def EX (e:Ex):Nat:=(yB e).length+2
def AX (l:List Ex):Nat:=(qu (l.map yB)).length
theorem AX_snoc (l:List Ex) (e:Ex):AX (l++[e])≤AX l+EX e:=by
 unfold AX EX
 rw[List.map_append,List.map_cons,List.map_nil,joinC_snoc,List.length_append,List.length_append]
 split <;> simp <;> omega
theorem par_len (lev:Int) (e:Ex):(opT lev e).length≤EX e:=by
 unfold opT parT EX
 split <;> simp
theorem EX_two (op:Int) (a b:Ex) (h:op ∈ um):EX (.mk 5 op 0 bE [a,b])≤EX a+EX b+7:=by
 have hT:yB (.mk 5 op 0 bE [a,b])=opT (z7 op) a++32 :: (yC op++32 :: opT (z7 op+1) b):=by rw[exT_mk,xV];rfl
 have h1:=par_len (z7 op) a
 have h2:=par_len (z7 op+1) b
 have h3:=two_len op h
 unfold EX at *
 rw[hT]
 simp only[List.length_append,List.length_cons]
 omega
theorem EX_one (op:Int) (a:Ex) (h:op ∈ ones):EX (.mk 4 op 0 bE [a])≤EX a+5:=by
 have hT:yB (.mk 4 op 0 bE [a])=if 23≤op then yC op++40 :: (yB a++[41]) else yC op++opT 11 a:=by rw[exT_mk,xV];rfl
 have h1:=par_len 11 a
 have h3:=un_len op h
 unfold EX at *
 rw[hT]
 split <;> simp only[List.length_append,List.length_cons,List.length_nil] <;> omega
theorem EX_var (s:ByteArray):EX (.mk 3 0 0 s [])=s.size+2:=by
 unfold EX
 rw[exT_mk]
 exact congrArg (·+2) (bsz s)
theorem EX_index (s:ByteArray) (e:Ex):EX (.mk 6 0 0 s [e])=s.size+EX e+2:=by
 have hT:yB (.mk 6 0 0 s [e])=s.data.toList++91 :: (yB e++[93]):=by rw[exT_mk,xV];rfl
 unfold EX
 rw[hT]
 simp only[List.length_append,List.length_cons,List.length_nil,bsz]
theorem EX_call (s:ByteArray) (l:List Ex):EX (.mk 7 0 0 s l)=s.size+AX l+4:=by
 have hT:yB (.mk 7 0 0 s l)=s.data.toList++40 :: (qu (l.map yB)++[41]):=by
  rw[exT_mk,xV]
  show s.data.toList++40 :: (qu ((l.map fun e=>(e.kind,e.op,yB e)).map (·.2.2))++[41])=_
  rw[List.map_map]
  rfl
 unfold EX AX
 rw[hT]
 simp only[List.length_append,List.length_cons,List.length_nil,bsz]
 omega
theorem size_expr (n:Nat):(∀ lev d l e r,Tk l→pE n lev d l=.ok e r→EX e+50 * xR r≤50 * xR l∧Tk r)∧(∀ lev d a l e r,Tk l→pL n lev d a l=.ok e r→EX e+50 * xR r≤EX a+50 * xR l∧Tk r)∧
 (∀ d l e r,Tk l→pU n d l=.ok e r→EX e+50 * xR r≤50 * xR l∧Tk r)∧(∀ d l e r,Tk l→pP n d l=.ok e r→EX e+50 * xR r≤50 * xR l∧Tk r)∧
 (∀ d s l e r,Tk l→pN n d s l=.ok e r→EX e+50 * xR r≤s.size+2+50 * xR l∧Tk r)∧(∀ d l es r,Tk l→pA n d l=.ok es r→AX es+50 * xR r+50≤50 * xR l∧Tk r)∧(∀ d acc l es r,Tk l→yq n d acc l=.ok es r→AX es+50 * xR r+50≤AX acc+50 * xR l∧Tk r):=by
 induction n with
 | zero=>exact⟨fun _ _ _ _ _ _ h=>(by rw[pE]at h;cases h),fun _ _ _ _ _ _ _ h=>(by rw[pL]at h;cases h),fun _ _ _ _ _ h=>(by rw[pU]at h;cases h),fun _ _ _ _ _ h=>(by rw[pP]at h;cases h),fun _ _ _ _ _ _ h=>(by rw[pN]at h;cases h),fun _ _ _ _ _ h=>(by rw[pA]at h;cases h),fun _ _ _ _ _ _ h=>(by rw[yq]at h;cases h)⟩
 | succ n ih=>
   obtain⟨iE,iL,iU,iP,iN,iA,iAL⟩:=ih
   refine⟨fun lev d l e r k h=>?_,fun lev d a l e r k h=>?_,fun d l e r k h=>?_,fun d l e r k h=>?_,fun d s l e r k h=>?_,fun d l es r k h=>?_,fun d acc l es r k h=>?_⟩
   · rw[pE]at h
     split at h
     · exact iU _ _ _ _ k h
     · obtain⟨a,r1,h1,h2⟩:=zC h
       have a1:=iE _ _ _ _ _ k h1
       have a2:=iL _ _ _ _ _ _ a1.2 h2
       exact⟨by omega,a2.2⟩
   · rw[pL]at h
     split at h
     · injection h with h1 h2
       subst h1 h2
       exact⟨Nat.le_refl _,k⟩
     · rename_i ho
       obtain⟨hm,hs⟩:=opFrom_mem ho
       obtain⟨b,r1,h1,h2⟩:=zC h
       have a1:=iE _ _ _ _ _ k.tail h1
       have a2:=iL _ _ _ _ _ _ a1.2 h2
       have hb:=qN hs
       have hl:=two_len _ hm
       have he:=EX_two (opAt lev l) a b hm
       unfold opAt at *
       exact⟨by omega,a2.2⟩
   · rw[pU]at h
     split at h
     · cases h
     · split at h
       · exact iP _ _ _ _ k h
       · rename_i ho
         obtain⟨hm,hs⟩:=unFrom_mem ho
         have hb:=qN hs
         have hl:=un_len _ hm
         split at h
         · obtain⟨u,r1,h1,h2⟩:=zC h
           obtain⟨a,r2,h3,h4⟩:=zC h2
           obtain⟨v,r3,h5,h6⟩:=zC h4
           injection h6 with h6 h7
           subst h6 h7
           have m1:=qS h1
           have a1:=iE _ _ _ _ _ (m1.2 k.tail) h3
           have m2:=qS h5
           have he:=EX_one (vP l) a hm
           have e1:=m1.1
           have e2:=m2.1
           simp only[List.length_cons,List.length_nil]at e1 e2
           unfold vP at *
           exact⟨by omega,m2.2 a1.2⟩
         · obtain⟨a,r2,h3,h4⟩:=zC h
           injection h4 with h6 h7
           subst h6 h7
           have a1:=iU _ _ _ _ k.tail h3
           have he:=EX_one (vP l) a hm
           unfold vP at *
           exact⟨by omega,a1.2⟩
   · rw[pP]at h
     split at h
     · rename_i hs
       obtain⟨a,r2,h3,h4⟩:=zC h
       obtain⟨v,r3,h5,h6⟩:=zC h4
       injection h6 with h6 h7
       subst h6 h7
       have hb:=qN hs
       have a1:=iE _ _ _ _ _ k.tail h3
       have m2:=qS h5
       have e2:=m2.1
       exact⟨by omega,m2.2 a1.2⟩
     · split at h
       · rename_i hs
         injection h with h6 h7
         subst h6 h7
         have hb:=qN hs
         have:EX (.mk 2 0 1 bE [])=6:=by decide+kernel
         rw[this]
         simp only[uo,List.length_cons,List.length_nil]at hb
         exact⟨by omega,k.tail⟩
       · split at h
         · rename_i hs
           injection h with h6 h7
           subst h6 h7
           have hb:=qN hs
           have:EX (.mk 2 0 0 bE [])=7:=by decide+kernel
           rw[this]
           simp only[vQ,List.length_cons,List.length_nil]at hb
           exact⟨by omega,k.tail⟩
         · split at h
           · rename_i hs
             obtain⟨u,r1,h1,h2⟩:=zC h
             obtain⟨v,r3,h5,h6⟩:=zC h2
             injection h6 with h6 h7
             subst h6 h7
             have hb:=qN hs
             have m1:=qS h1
             have m2:=qS h5
             have e1:=m1.1
             have e2:=m2.1
             have:EX (.mk 8 0 0 bE [])=8:=by decide+kernel
             rw[this]
             simp only[uZ,List.length_cons,List.length_nil]at hb
             exact⟨by omega,m2.2 (m1.2 k.tail)⟩
           · split at h
             · rename_i hk
               injection h with h6 h7
               subst h6 h7
               have hb:=byt_tail l
               have hn:EX (.mk 1 0 (jH 0 (hdT l)) bE [])≤(hdT l).length+2∧1≤(hdT l).length:=by
                cases l with
                | nil=>cases hk
                | cons t q=>
                  have h2:=(k t (by simp)).2 hk
                  refine⟨?_,h2.2⟩
                  unfold EX
                  rw[exT_mk]
                  exact Nat.add_le_add_right (num_len h2.1 h2.2) 2
               exact⟨by omega,k.tail⟩
             · obtain⟨s,r1,h1,h2⟩:=zC h
               have w1:=uy h1
               have a1:=iN _ _ _ _ _ (w1.2.1 k) h2
               have:=w1.2.2 k
               have:=w1.1
               exact⟨by omega,a1.2⟩
   · rw[pN]at h
     split at h
     · rename_i hs
       obtain⟨es,r1,h1,h2⟩:=zC h
       injection h2 with h6 h7
       subst h6 h7
       have hb:=qN hs
       have a1:=iA _ _ _ _ k.tail h1
       rw[EX_call]
       simp only[List.length_cons,List.length_nil]at hb
       exact⟨by omega,a1.2⟩
     · split at h
       · rename_i hs
         obtain⟨a,r2,h3,h4⟩:=zC h
         obtain⟨v,r3,h5,h6⟩:=zC h4
         injection h6 with h6 h7
         subst h6 h7
         have hb:=qN hs
         have a1:=iE _ _ _ _ _ k.tail h3
         have m2:=qS h5
         have e2:=m2.1
         rw[EX_index]
         exact⟨by omega,m2.2 a1.2⟩
       · injection h with h6 h7
         subst h6 h7
         rw[EX_var]
         exact⟨by omega,k⟩
   · rw[pA]at h
     split at h
     · rename_i hs
       injection h with h6 h7
       subst h6 h7
       have hb:=qN hs
       simp only[List.length_cons,List.length_nil]at hb
       have:AX []=0:=rfl
       exact⟨by omega,k.tail⟩
     · have a1:=iAL _ _ _ _ _ k h
       have:AX []=0:=rfl
       exact⟨by omega,a1.2⟩
   · rw[yq]at h
     obtain⟨a,r2,h3,h4⟩:=zC h
     have a1:=iE _ _ _ _ _ k h3
     have hA:=AX_snoc acc a
     split at h4
     · rename_i hs
       have hb:=qN hs
       have a2:=iAL _ _ _ _ _ a1.2.tail h4
       exact⟨by omega,a2.2⟩
     · obtain⟨v,r3,h5,h6⟩:=zC h4
       injection h6 with h6 h7
       subst h6 h7
       have m2:=qS h5
       have e2:=m2.1
       simp only[List.length_cons,List.length_nil]at e2
       exact⟨by omega,m2.2 a1.2⟩
theorem pE_size {n:Nat} {lev d:Int} {l r:List Tok} {e:Ex} (k:Tk l) (h:pE n lev d l=.ok e r):EX e+50 * xR r≤50 * xR l∧Tk r:=(size_expr n).1 _ _ _ _ _ k h
theorem pA_size {n:Nat} {d:Int} {l r:List Tok} {es:List Ex} (k:Tk l) (h:pA n d l=.ok es r):AX es+50 * xR r+50≤50 * xR l∧Tk r:=(size_expr n).2.2.2.2.2.1 _ _ _ _ k h
end Go.Proofs.YtndgkfkieogplaaDoor
