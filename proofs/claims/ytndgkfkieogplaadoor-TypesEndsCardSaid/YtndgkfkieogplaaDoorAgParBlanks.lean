import Derived.Test.YtndgkfkieogplaaDoorAgParSizeS
set_option linter.unusedSimpArgs false
set_option linter.unusedVariables false
set_option maxRecDepth 100000
/- Blanks and comments ahead of a text and behind it change nothing but lines (as TokBetMath says it, with nothing of the program): no Go, no program. -/
namespace Go.Proofs.YtndgkfkieogplaaDoor
open Lib (hid)
open Go.RowKit
theorem span_appP {l:List UInt8} (hne:l≠[]) (b:UInt8) (hb:zd b=false) (r:List UInt8):(l++b :: r).takeWhile zd=l.takeWhile zd:=by
 induction l with
 | nil=>exact absurd rfl hne
 | cons c t ih=>
   rw[List.cons_append]
   by_cases hc:zd c=true
   · rw[List.takeWhile_cons_of_pos hc,List.takeWhile_cons_of_pos hc]
     congr 1
     cases t with
     | nil=>rw[List.nil_append,List.takeWhile_cons_of_neg (by simp[hb])];rfl
     | cons d t'=>exact ih (by simp)
   · rw[List.takeWhile_cons_of_neg hc,List.takeWhile_cons_of_neg hc]
theorem prefix_appP (t l:List UInt8) (b:UInt8) (hb:b ∉ t) (hne:l≠[]) (r:List UInt8):Lib.hasPrefix (l++b :: r) t=Lib.hasPrefix l t:=by
 unfold Lib.hasPrefix
 induction t generalizing l with
 | nil=>simp
 | cons x t ih=>
   cases l with
   | nil=>exact absurd rfl hne
   | cons c l'=>
     rw[List.cons_append,List.isPrefixOf_cons_cons,List.isPrefixOf_cons_cons]
     have hb':b ∉ t:=fun h=>hb (List.mem_cons_of_mem _ h)
     cases l' with
     | nil=>
       congr 1
       cases t with
       | nil=>rfl
       | cons y t'=>
         have hy:(y == b)=false:=by
          rw[Bool.eq_false_iff]
          intro e
          rw[beq_iff_eq]at e
          exact hb' (by rw[e];exact List.mem_cons_self ..)
         rw[List.nil_append,List.isPrefixOf_cons_cons,hy]
         rfl
     | cons d l''=>rw[ih (d :: l'') hb' (by simp)]
theorem sign_freeP (b:UInt8) (h:b=10∨b=32):∀ t ∈ zn,b ∉ t:=by
 rcases h with rfl | rfl <;> decide
theorem signL_appP {l:List UInt8} (hne:l≠[]) (b:UInt8) (hb:b=10∨b=32) (r:List UInt8):kQ (l++b :: r)=kQ l:=by
 have h:∀ (ss:List (List UInt8)),(∀ t ∈ ss,b ∉ t)→ss.find? (fun t=>Lib.hasPrefix (l++b :: r) t)=ss.find? (fun t=>Lib.hasPrefix l t):=by
  intro ss
  induction ss with
  | nil=>intro _;rfl
  | cons t ss ih=>
    intro hf
    rw[List.find?_cons,List.find?_cons,prefix_appP t l b (hf t (List.mem_cons_self ..)) hne r,ih (fun u hu=>hf u (List.mem_cons_of_mem _ hu))]
 unfold kQ
 rw[h zn (sign_freeP b hb)]
theorem one_appP {l:List UInt8} (hne:l≠[]) (b:UInt8) (hb:b=10∨b=32) (r:List UInt8):one (l++b :: r)=one l:=by
 have hn:zd b=false:=by rcases hb with rfl | rfl <;> rfl
 unfold one
 rw[span_appP hne b hn r,signL_appP hne b hb r]
theorem dropWhile_app10P (l r:List UInt8):(l++10 :: r).dropWhile (fun d=>d.toNat != 10)=l.dropWhile (fun d=>d.toNat != 10)++10 :: r:=by
 induction l with
 | nil=>rfl
 | cons c t ih=>
   rw[List.cons_append]
   by_cases hc:c.toNat=10
   · rw[List.dropWhile_cons_of_neg (by simp[hc]),List.dropWhile_cons_of_neg (by simp[hc])]
     rfl
   · rw[List.dropWhile_cons_of_pos (by simp[hc]),List.dropWhile_cons_of_pos (by simp[hc]),ih]
theorem yj:∀ (n:Nat) (l:List UInt8) (line:Nat) (init:List Tok) (ln:Nat) (r:List UInt8),l.length≤n→zN l line=(init++[⟨3,[],ln⟩],none)→
 zN (l++10 :: r) line=(init++(zN (10 :: r) ln).1,(zN (10 :: r) ln).2)
 | _,[],line,init,ln,r,_,h=>by
   rw[zN]at h
   injection h with h _
   cases init with
   | nil=>
     simp at h
     subst h
     rfl
   | cons a t=>
     have:=congrArg List.length h
     simp at this
 | 0,c :: t,line,init,ln,r,hl,h=>by simp at hl
 | n+1,c :: t,line,init,ln,r,hl,h=>by
   simp only[List.length_cons]at hl
   rw[zN]at h
   rw[List.cons_append,zN]
   split at h
   · rename_i h10
     rw[if_pos h10]
     exact yj n t _ init ln r (by omega) h
   · rename_i h10
     rw[if_neg h10]
     split at h
     · rename_i hb
       rw[if_pos hb]
       exact yj n t _ init ln r (by omega) h
     · rename_i hb
       rw[if_neg hb]
       have hcm:((t++10 :: r).head? == some 47)=(t.head? == some 47):=by cases t <;> rfl
       rw[hcm]
       split at h
       · rename_i hc
         rw[if_pos hc,dropWhile_app10P]
         have h1:=List.IsSuffix.length_le (List.dropWhile_suffix (l:=t) (fun d:UInt8=>d.toNat != 10))
         exact yj n _ _ init ln r (by omega) h
       · rename_i hc
         rw[if_neg hc]
         have ho:one (c :: (t++10 :: r))=one (c :: t):=one_appP (l:=c :: t) (by simp) 10 (.inl rfl) r
         rw[ho]
         split at h
         · injection h with h1 h2
           cases h2
         · rename_i k x hone
           have hx:=one_tk hone
           simp only[List.length_cons]at hx
           injection h with h1 h2
           have h3:(t.drop (x.length-1)).length≤t.length:=by rw[List.length_drop];omega
           cases init with
           | nil=>
             simp at h1
             rw[h1.1.2.1]at hx
             simp at hx
           | cons a init'=>
             rw[List.cons_append]at h1
             injection h1 with e1 e2
             have ih:=yj n (t.drop (x.length-1)) line init' ln r (by omega) (Prod.ext e2 h2)
             have hd:(t++10 :: r).drop (x.length-1)=t.drop (x.length-1)++10 :: r:=by
              rw[List.drop_append_of_le_length (by omega)]
             rw[hd,ih,e1]
             rfl
theorem yE:∀ (n:Nat) (l:List UInt8) (a b:Nat),l.length≤n→((zN l a).2=none↔(zN l b).2=none)∧(zN l a).1.map fl0=(zN l b).1.map fl0
 | _,[],a,b,_=>by rw[zN,zN];exact⟨Iff.rfl,rfl⟩
 | 0,c :: t,a,b,hl=>by simp at hl
 | n+1,c :: t,a,b,hl=>by
   simp only[List.length_cons]at hl
   rw[zN,zN]
   split
   · exact yE n t _ _ (by omega)
   · split
     · exact yE n t _ _ (by omega)
     · split
       · have h1:=List.IsSuffix.length_le (List.dropWhile_suffix (l:=t) (fun d:UInt8=>d.toNat != 10))
         exact yE n _ _ _ (by omega)
       · split
         · simp
         · rename_i k x hone
           have h3:(t.drop (x.length-1)).length≤t.length:=by rw[List.length_drop];omega
           obtain⟨ih1,ih2⟩:=yE n (t.drop (x.length-1)) a b (by omega)
           exact⟨ih1,by rw[List.map_cons,List.map_cons,ih2];rfl⟩
theorem yk:∀ (n:Nat) (l:List UInt8) (line:Nat) (i:List Tok) (e:Tok),l.length≤n→(zN l line).1=i++[e]→(zN l line).2=none→∃ ln,(zN l line).1=i++[⟨3,[],ln⟩]
 | _,[],line,i,e,_,h,_=>by
   rw[zN]at h ⊢
   have hl:=congrArg List.length h
   simp at hl
   subst hl
   exact⟨line,rfl⟩
 | 0,c :: r,line,i,e,hl,_,_=>by simp at hl
 | n+1,c :: r,line,i,e,hl,h,h2=>by
   simp only[List.length_cons]at hl
   rw[zN]at h h2 ⊢
   split at h
   · rename_i h10
     rw[if_pos h10]at h2
     rw[if_pos h10]
     exact yk n r _ i e (by omega) h h2
   · rename_i h10
     rw[if_neg h10]at h2
     rw[if_neg h10]
     split at h
     · rename_i hb
       rw[if_pos hb]at h2
       rw[if_pos hb]
       exact yk n r _ i e (by omega) h h2
     · rename_i hb
       rw[if_neg hb]at h2
       rw[if_neg hb]
       split at h
       · rename_i hc
         rw[if_pos hc]at h2
         rw[if_pos hc]
         have h1:=List.IsSuffix.length_le (List.dropWhile_suffix (l:=r) (fun d:UInt8=>d.toNat != 10))
         exact yk n _ _ i e (by omega) h h2
       · rename_i hc
         rw[if_neg hc]at h2
         rw[if_neg hc]
         cases ho:one (c :: r) with
         | none=>
           rw[ho]at h2
           cases h2
         | some v=>
           obtain⟨k,t⟩:=v
           rw[ho]at h h2
           have h1:(r.drop (t.length-1)).length=r.length-(t.length-1):=List.length_drop
           cases i with
           | nil=>
             exfalso
             injection h with _ h
             obtain⟨_,e',he',_⟩:=jT _ (r.drop (t.length-1)) line [] (Nat.le_refl _) (Prod.ext h (show (zN (r.drop (t.length-1)) line).2=none from h2))
             simp at he'
           | cons a i'=>
             rw[List.cons_append]at h
             injection h with e1 e2
             obtain⟨ln,hln⟩:=yk n (r.drop (t.length-1)) line i' e (by omega) e2 h2
             exact⟨ln,by show _ :: (zN (r.drop (t.length-1)) line).1=_;rw[hln,e1];rfl⟩
theorem parse_fl {ts us r:List Tok} {p:Pr} (h:fl us=fl ts) (hp:qA ts=.ok p r):∃ q,qA us=.ok p q:=by
 have h1:=fl_parseT us
 rw[h,fl_parseT ts,hp]at h1
 cases hu:qA us with
 | ok a q=>
   rw[hu]at h1
   injection h1 with h1 _
   exact⟨q,by rw[h1]⟩
 | bad r=>rw[hu]at h1;cases h1
 | deep r=>rw[hu]at h1;cases h1
 | out=>rw[hu]at h1;cases h1
theorem kindT_num {t:List UInt8} (h:jR t=some 0):kO t=true:=by
 unfold jR at h
 split at h
 · injection h with h
   omega
 · split at h
   · injection h with h
     omega
   · split at h
     · rename_i hn
       exact hn
     · cases h
theorem one_num {l t:List UInt8} {k:Int} (h:one l=some (k,t)) (h0:k=0):kO t=true:=by
 subst h0
 unfold one at h
 split at h
 · cases hk:jR (l.takeWhile zd) with
   | none=>rw[hk]at h;cases h
   | some j=>
     rw[hk]at h
     injection h with h
     injection h with h1 h2
     subst h1 h2
     exact kindT_num hk
 · split at h
   · injection h with h
     injection h with h1 h2
     omega
   · cases h
theorem zAb:∀ (n:Nat) (l:List UInt8) (line:Nat) (ts:List Tok),l.length≤n→zN l line=(ts,none)→(∀ t ∈ ts,t.kind=0→kO t.text=true∧t.text.length≤l.length)∧ts.length≤l.length+1
 | _,[],line,ts,_,h=>by
   rw[zN]at h
   injection h with h _
   subst h
   refine⟨fun t ht=>?_,by simp⟩
   obtain rfl:=List.mem_singleton.1 ht
   exact fun h=>(by cases h)
 | 0,c :: r,line,ts,h,_=>by simp at h
 | n+1,c :: r,line,ts,hl,h=>by
   simp only[List.length_cons]at hl ⊢
   rw[zN]at h
   have grow:∀ {k:Nat},k≤r.length→((∀ t ∈ ts,t.kind=0→kO t.text=true∧t.text.length≤k)∧ts.length≤k+1)→(∀ t ∈ ts,t.kind=0→kO t.text=true∧t.text.length≤r.length+1)∧ts.length≤r.length+1+1:=fun hk ⟨g1,g2⟩=>
    ⟨fun t ht h0=>⟨(g1 t ht h0).1,by have:=(g1 t ht h0).2;omega⟩,by omega⟩
   split at h
   · exact grow (Nat.le_refl _) (zAb n r _ ts (by omega) h)
   · split at h
     · exact grow (Nat.le_refl _) (zAb n r _ ts (by omega) h)
     · split at h
       · have h1:=List.IsSuffix.length_le (List.dropWhile_suffix (l:=r) (fun d:UInt8=>d.toNat != 10))
         exact grow h1 (zAb n _ _ ts (by omega) h)
       · split at h
         · cases h
         · rename_i k t hone
           have h1:(r.drop (t.length-1)).length=r.length-(t.length-1):=List.length_drop
           obtain⟨o1,o2,_⟩:=one_tk hone
           rw[List.length_cons]at o2
           injection h with e1 e2
           obtain⟨i1,i2⟩:=zAb n (r.drop (t.length-1)) line (zN (r.drop (t.length-1)) line).1 (by omega) (by rw[←e2])
           subst e1
           refine⟨fun u hu=>?_,?_⟩
           · rcases List.mem_cons.1 hu with rfl | hu
             · exact fun h0=>⟨one_num hone h0,o2⟩
             · exact fun h0=>⟨(i1 u hu h0).1,by have:=(i1 u hu h0).2;omega⟩
           · rw[List.length_cons]
             omega
def hdL (l:List Tok):Nat:=match l with | t :: _=>t.line | []=>0
def pr0:Pr:=⟨[],[]⟩
def docT (ts:List Tok):Pr × Int × Nat:=
 match qA ts with
 | .ok p _=>if prOK p=true then (p,0,0) else (pr0,2,0)
 | .bad r=>(pr0,20,hdL r)
 | .deep r=>(pr0,2,hdL r)
 | .out=>(pr0,0,0)
def kS (s:ByteArray):Pr × Int × Nat:=
 if 100000<s.size then (pr0,2,0)
 else match (zN s.data.toList 1).2 with
  | some ln=>(pr0,20,ln)
  | none=>docT (zN s.data.toList 1).1
theorem docP_long {s:ByteArray} (h:100000<s.size):kS s=(pr0,2,0):=by unfold kS;rw[if_pos h]
theorem docP_no {s:ByteArray} (h:s.size≤100000) {ln:Nat} (hs:(zN s.data.toList 1).2=some ln):kS s=(pr0,20,ln):=by unfold kS;rw[if_neg (by omega),hs]
theorem zAc {s:ByteArray} (h:s.size≤100000) {ts:List Tok} (hs:zN s.data.toList 1=(ts,none)):kS s=docT ts:=by unfold kS;rw[if_neg (by omega),hs]
theorem scan_none {l:List UInt8} (h:(zN l 1).2=none):zN l 1=((zN l 1).1,none):=by rw[←h]
def xb (a:List UInt8) (A:List Tok):Prop:=∀ r ln,∃ ln' U,zN (a++r) ln=(U++(zN r ln').1,(zN r ln').2)∧fl U=A
theorem xb.nil:xb [] []:=fun r ln=>⟨ln,[],by simp,rfl⟩
theorem xb.app {a b:List UInt8} {A B:List Tok} (h:xb a A) (g:xb b B):xb (a++b) (A++B):=fun r ln=>by
 obtain⟨l1,U,h1,h2⟩:=h (b++r) ln
 obtain⟨l2,V,g1,g2⟩:=g r l1
 refine⟨l2,U++V,?_,?_⟩
 · rw[List.append_assoc,h1,g1,List.append_assoc]
 · unfold fl at *
   rw[List.map_append,h2,g2]
theorem yF {t:List UInt8} {T:List Tok} (h:(zN t 1).2=none) (h':fl (zN t 1).1=T++[⟨3,[],0⟩]):xb (t++[10]) T:=fun r ln=>by
 obtain⟨s1,s2⟩:=yE t.length t 1 ln (Nat.le_refl _)
 have hn:=s1.1 h
 have hf:(zN t ln).1.map fl0=T++[⟨3,[],0⟩]:=s2.symm.trans h'
 obtain⟨U,E,hU,hT,hE⟩:=List.map_eq_append_iff.1 hf
 obtain⟨e,E',rfl,he,hE'⟩:=List.map_eq_cons_iff.1 hE
 rw[List.map_eq_nil_iff]at hE'
 subst hE'
 obtain⟨l1,hl⟩:=yk t.length t ln U e (Nat.le_refl _) hU hn
 have h1:=yj t.length t ln U l1 r (Nat.le_refl _) (by rw[←hl,←hn])
 refine⟨l1+1,U,?_,hT⟩
 rw[List.append_assoc]
 show zN (t++10 :: r) ln=_
 rw[h1,scan_n10]
theorem xb.whole {a:List UInt8} {A:List Tok} (h:xb a A) (ln:Nat):∃ ts,zN a ln=(ts,none)∧fl ts=A++[⟨3,[],0⟩]:=by
 obtain⟨l1,U,h1,h2⟩:=h [] ln
 rw[List.append_nil,zN]at h1
 refine⟨_,h1,?_⟩
 unfold fl at *
 rw[List.map_append,h2]
 rfl
def tyTok (t:Tok):Bool:=decide (t.kind=2) && (t.text == x8 || t.text == jf)
def eqNext:List Tok→Bool
 | _ :: u :: _=>decide (u.kind=2) && u.text == [61]
 | _=>false
def yu:List Tok→Bool
 | []=>true
 | t :: r=>(decide (t.kind≠3) && (!tyTok t || eqNext r)) && yu r
theorem eqNext_app:∀ {a:List Tok} (b:List Tok),eqNext a=true→eqNext (a++b)=true
 | _ :: _ :: _,_,h=>h
 | [_],_,h=>by cases h
 | [],_,h=>by cases h
theorem calm_app:∀ {a b:List Tok},yu a=true→yu b=true→yu (a++b)=true
 | [],b,_,h=>h
 | t :: r,b,h,g=>by
   rw[yu,Bool.and_eq_true,Bool.and_eq_true]at h
   rw[List.cons_append,yu,Bool.and_eq_true,Bool.and_eq_true]
   refine⟨⟨h.1.1,?_⟩,calm_app h.2 g⟩
   have h2:=h.1.2
   cases ht:tyTok t
   · simp
   · rw[ht]at h2
     simpa using eqNext_app b (by simpa using h2)
theorem calm_drop:∀ {a b:List Tok},yu (a++b)=true→yu b=true
 | [],_,h=>h
 | t :: r,b,h=>by
   rw[List.cons_append,yu,Bool.and_eq_true]at h
   exact calm_drop h.2
theorem calm_kind:∀ {a:List Tok},yu a=true→∀ t ∈ a,t.kind≠3
 | [],_,_,h=>by cases h
 | t :: r,h,u,hu=>by
   rw[yu,Bool.and_eq_true,Bool.and_eq_true,decide_eq_true_iff]at h
   rcases List.mem_cons.1 hu with rfl | hu
   · exact h.1.1
   · exact calm_kind h.2 u hu
theorem calm_no {n:Nat} {p q:Pr} {t:Tok} {a b r:List Tok} (h:yu (t :: a)=true):jg (n+1) p (t :: a++b)≠.ok q r:=by
 intro hp
 rw[yu,Bool.and_eq_true,Bool.and_eq_true,decide_eq_true_iff]at h
 have hk:=h.1.1
 unfold jg at hp
 rw[List.cons_append,if_neg (show ¬ yQ (t :: (a++b))=3 from hk)]at hp
 by_cases ht:tyTok t=true
 · have h12:eqNext a=true:=by simpa[ht] using h.1.2
   match a,h12 with
   | s :: u :: a',hu=>
     unfold eqNext at hu
     rw[Bool.and_eq_true,decide_eq_true_iff]at hu
     have hu2:u.text=[61]:=by simpa using hu.2
     have hno:∀ x:List UInt8,x≠[61]→z9 x (u :: (a'++b))=false:=fun x hx=>by
      show (decide (u.kind=2) && u.text == x)=false
      rw[hu2]
      simp[Ne.symm hx]
     obtain⟨ty,r1,h1,h2⟩:=zC hp
     have hr1:r1=s :: (u :: (a'++b)):=by
      unfold yt at h1
      split at h1
      · injection h1 with _ h1;exact h1.symm
      · unfold zI at h1
        split at h1
        · simp only[PR.bind]at h1;injection h1 with _ h1;exact h1.symm
        · simp only[PR.bind]at h1;cases h1
     subst hr1
     obtain⟨nm,r2,h3,h4⟩:=zC h2
     have hr2:r2=u :: (a'++b):=by
      unfold zy at h3
      split at h3
      · injection h3 with _ h3;exact h3.symm
      · cases h3
     subst hr2
     rw[if_neg (by rw[hno [91] (by decide)];simp)]at h4
     unfold uh pPs zI at h4
     rw[hno [40] (by decide)]at h4
     simp[PR.bind]at h4
 · have h1:z9 x8 (t :: (a++b))=false∧z9 jf (t :: (a++b))=false:=by
    unfold tyTok at ht
    unfold z9
    by_cases k2:t.kind=2
    · simp[k2]at ht ⊢
      exact ht
    · simp[k2]
   unfold yt zI at hp
   rw[h1.1,h1.2]at hp
   simp[PR.bind]at hp
def preText:List UInt8:=[105,110,116,32,97,91,52,93,59,10,105,110,116,32,102,40,105,110,116,32,120,44,32,98,111,111,108,32,98,41,32,123]
def ky:List Tok:=[⟨2,[105,110,116],0⟩,⟨1,[97],0⟩,⟨2,[91],0⟩,⟨0,[52],0⟩,⟨2,[93],0⟩,⟨2,[59],0⟩,⟨2,[105,110,116],0⟩,⟨1,[102],0⟩,⟨2,[40],0⟩,⟨2,[105,110,116],0⟩,⟨1,[120],0⟩,⟨2,[44],0⟩,⟨2,[98,111,111,108],0⟩,⟨1,[98],0⟩,⟨2,[41],0⟩,⟨2,[123],0⟩]
def sufText:List UInt8:=[125,10,105,110,116,32,109,97,105,110,40,41,32,123,32,114,101,116,117,114,110,32,102,40,49,44,32,116,114,117,101,41,59,32,125]
def jO:List Tok:=[⟨2,[125],0⟩,⟨2,[105,110,116],0⟩,⟨1,[109,97,105,110],0⟩,⟨2,[40],0⟩,⟨2,[41],0⟩,⟨2,[123],0⟩,⟨2,[114,101,116,117,114,110],0⟩,⟨1,[102],0⟩,⟨2,[40],0⟩,⟨0,[49],0⟩,⟨2,[44],0⟩,⟨2,[116,114,117,101],0⟩,⟨2,[41],0⟩,⟨2,[59],0⟩,⟨2,[125],0⟩]
def xk:List (List UInt8):=[[120,32,61,32,49,59],
 [105,110,116,32,121,32,61,32,120,59],
 [98,111,111,108,32,98,32,61,32,120,32,60,32,50,59],
 [98,32,61,32,33,98,59],
 [97,91,120,93,32,61,32,121,59],
 [105,102,32,40,98,41,32,123],
 [125,32,101,108,115,101,32,123],
 [125],
 [119,104,105,108,101,32,40,120,32,60,32,51,41,32,123],
 [119,104,105,108,101,32,40,116,114,117,101,41,32,123],
 [98,114,101,97,107,59],
 [99,111,110,116,105,110,117,101,59],
 [114,101,116,117,114,110,32,120,59],
 [114,101,116,117,114,110,32,98,59],
 [112,114,105,110,116,40,120,32,43,32,97,91,48,93,41,59],
 [102,40,120,44,32,98,41,59],
 [105,110,116,32,120,32,61,32,50,59],
 [120,32,61,32,102,40,49,44,32,116,114,117,101,41,59],
 [98,32,61,32,102,40,120,44,32,98,41,32,61,61,32,50,32,38,38,32,98,59],
 [121,32,61,32,105,56,40,120,41,59],
 [98,32,61,32,120,59],
 [120,32,61,32,45,98,59],
 [114,101,116,117,114,110,32,102,40,120,44,32,98,32,61,61,32,116,114,117,101,41,59],
 [122,32,61,32,49,59],
 [99,91,48,93,32,61,32,49,59],
 [104,40,41,59],
 [120,32,61,32,114,101,97,100,40,41,59],
 [123],
 [114,101,116,117,114,110,32,48,59],
 [112,114,105,110,116,40,116,114,117,101,41,59],
 [98,32,61,32,116,114,117,101,32,33,61,32,40,120,32,62,32,49,41,59]]
def bodyToks:List (List Tok):=[[⟨1,[120],0⟩,⟨2,[61],0⟩,⟨0,[49],0⟩,⟨2,[59],0⟩],
 [⟨2,[105,110,116],0⟩,⟨1,[121],0⟩,⟨2,[61],0⟩,⟨1,[120],0⟩,⟨2,[59],0⟩],
 [⟨2,[98,111,111,108],0⟩,⟨1,[98],0⟩,⟨2,[61],0⟩,⟨1,[120],0⟩,⟨2,[60],0⟩,⟨0,[50],0⟩,⟨2,[59],0⟩],
 [⟨1,[98],0⟩,⟨2,[61],0⟩,⟨2,[33],0⟩,⟨1,[98],0⟩,⟨2,[59],0⟩],
 [⟨1,[97],0⟩,⟨2,[91],0⟩,⟨1,[120],0⟩,⟨2,[93],0⟩,⟨2,[61],0⟩,⟨1,[121],0⟩,⟨2,[59],0⟩],
 [⟨2,[105,102],0⟩,⟨2,[40],0⟩,⟨1,[98],0⟩,⟨2,[41],0⟩,⟨2,[123],0⟩],
 [⟨2,[125],0⟩,⟨2,[101,108,115,101],0⟩,⟨2,[123],0⟩],
 [⟨2,[125],0⟩],
 [⟨2,[119,104,105,108,101],0⟩,⟨2,[40],0⟩,⟨1,[120],0⟩,⟨2,[60],0⟩,⟨0,[51],0⟩,⟨2,[41],0⟩,⟨2,[123],0⟩],
 [⟨2,[119,104,105,108,101],0⟩,⟨2,[40],0⟩,⟨2,[116,114,117,101],0⟩,⟨2,[41],0⟩,⟨2,[123],0⟩],
 [⟨2,[98,114,101,97,107],0⟩,⟨2,[59],0⟩],
 [⟨2,[99,111,110,116,105,110,117,101],0⟩,⟨2,[59],0⟩],
 [⟨2,[114,101,116,117,114,110],0⟩,⟨1,[120],0⟩,⟨2,[59],0⟩],
 [⟨2,[114,101,116,117,114,110],0⟩,⟨1,[98],0⟩,⟨2,[59],0⟩],
 [⟨2,[112,114,105,110,116],0⟩,⟨2,[40],0⟩,⟨1,[120],0⟩,⟨2,[43],0⟩,⟨1,[97],0⟩,⟨2,[91],0⟩,⟨0,[48],0⟩,⟨2,[93],0⟩,⟨2,[41],0⟩,⟨2,[59],0⟩],
 [⟨1,[102],0⟩,⟨2,[40],0⟩,⟨1,[120],0⟩,⟨2,[44],0⟩,⟨1,[98],0⟩,⟨2,[41],0⟩,⟨2,[59],0⟩],
 [⟨2,[105,110,116],0⟩,⟨1,[120],0⟩,⟨2,[61],0⟩,⟨0,[50],0⟩,⟨2,[59],0⟩],
 [⟨1,[120],0⟩,⟨2,[61],0⟩,⟨1,[102],0⟩,⟨2,[40],0⟩,⟨0,[49],0⟩,⟨2,[44],0⟩,⟨2,[116,114,117,101],0⟩,⟨2,[41],0⟩,⟨2,[59],0⟩],
 [⟨1,[98],0⟩,⟨2,[61],0⟩,⟨1,[102],0⟩,⟨2,[40],0⟩,⟨1,[120],0⟩,⟨2,[44],0⟩,⟨1,[98],0⟩,⟨2,[41],0⟩,⟨2,[61,61],0⟩,⟨0,[50],0⟩,⟨2,[38,38],0⟩,⟨1,[98],0⟩,⟨2,[59],0⟩],
 [⟨1,[121],0⟩,⟨2,[61],0⟩,⟨2,[105,56],0⟩,⟨2,[40],0⟩,⟨1,[120],0⟩,⟨2,[41],0⟩,⟨2,[59],0⟩],
 [⟨1,[98],0⟩,⟨2,[61],0⟩,⟨1,[120],0⟩,⟨2,[59],0⟩],
 [⟨1,[120],0⟩,⟨2,[61],0⟩,⟨2,[45],0⟩,⟨1,[98],0⟩,⟨2,[59],0⟩],
 [⟨2,[114,101,116,117,114,110],0⟩,⟨1,[102],0⟩,⟨2,[40],0⟩,⟨1,[120],0⟩,⟨2,[44],0⟩,⟨1,[98],0⟩,⟨2,[61,61],0⟩,⟨2,[116,114,117,101],0⟩,⟨2,[41],0⟩,⟨2,[59],0⟩],
 [⟨1,[122],0⟩,⟨2,[61],0⟩,⟨0,[49],0⟩,⟨2,[59],0⟩],
 [⟨1,[99],0⟩,⟨2,[91],0⟩,⟨0,[48],0⟩,⟨2,[93],0⟩,⟨2,[61],0⟩,⟨0,[49],0⟩,⟨2,[59],0⟩],
 [⟨1,[104],0⟩,⟨2,[40],0⟩,⟨2,[41],0⟩,⟨2,[59],0⟩],
 [⟨1,[120],0⟩,⟨2,[61],0⟩,⟨2,[114,101,97,100],0⟩,⟨2,[40],0⟩,⟨2,[41],0⟩,⟨2,[59],0⟩],
 [⟨2,[123],0⟩],
 [⟨2,[114,101,116,117,114,110],0⟩,⟨0,[48],0⟩,⟨2,[59],0⟩],
 [⟨2,[112,114,105,110,116],0⟩,⟨2,[40],0⟩,⟨2,[116,114,117,101],0⟩,⟨2,[41],0⟩,⟨2,[59],0⟩],
 [⟨1,[98],0⟩,⟨2,[61],0⟩,⟨2,[116,114,117,101],0⟩,⟨2,[33,61],0⟩,⟨2,[40],0⟩,⟨1,[120],0⟩,⟨2,[62],0⟩,⟨0,[49],0⟩,⟨2,[41],0⟩,⟨2,[59],0⟩]]
theorem pre_scans:xb (preText++[10]) ky:=yF (by kernel_rfl) (by kernel_rfl)
theorem suf_scans:xb (sufText++[10]) jO:=yF (by kernel_rfl) (by kernel_rfl)
theorem body_scan:xk.map (fun t=>((zN t 1).2,fl (zN t 1).1))=bodyToks.map fun T=>(none,T++[⟨3,[],0⟩]):=by kernel_rfl
theorem body_calm:bodyToks.all yu=true:=by kernel_rfl
theorem body_piece {i:Nat} {t:List UInt8} (h:xk[i]? =some t):∃ T,xb (t++[10]) T∧yu T=true:=by
 have h1:(xk.map (fun t=>((zN t 1).2,fl (zN t 1).1)))[i]? =some ((zN t 1).2,fl (zN t 1).1):=by rw[List.getElem?_map,h];rfl
 rw[body_scan,List.getElem?_map]at h1
 cases hT:bodyToks[i]? with
 | none=>rw[hT]at h1;cases h1
 | some T=>
   rw[hT]at h1
   injection h1 with h1
   injection h1 with h2 h3
   exact⟨T,yF h2.symm h3.symm,List.all_eq_true.1 body_calm T (List.mem_of_getElem? hT)⟩
def kT:Tok:=⟨3,[],0⟩
def fB:ByteArray:=⟨#[102]⟩
def mainB4:ByteArray:=⟨#[109,97,105,110]⟩
def arA:Ar:=⟨⟨#[97]⟩,4⟩
def kE (body:List St):Fu:=⟨fB,1,[⟨⟨#[120]⟩,1⟩,⟨⟨#[98]⟩,2⟩],body⟩
def xv:Fu:=⟨mainB4,1,[],[.mk 8 0 bE [.mk 7 0 0 fB [.mk 1 0 1 bE [],.mk 2 0 1 bE []]] [] []]⟩
theorem pr_step (n:Nat) (p:Pr) (l:List Tok):jg (n+1) p l=if yQ l=3 then .ok p l else (yt l).bind fun t r=>(zy 1 r).bind fun s r=>
 if t=1∧p.funcs=[]∧z9 [91] r=true then (vc s r.tail).bind fun a r=>jg n ⟨p.arrays++[a],p.funcs⟩ r
 else (uh n t s r).bind fun f r=>jg n ⟨p.arrays,p.funcs++[f]⟩ r:=by rw[jg]
theorem pre_a (n:Nat) (Z:List Tok):jg (n+1) ⟨[],[]⟩ (ky.take 6++Z)=jg n ⟨[arA],[]⟩ Z:=by
 rw[pr_step]
 rfl
theorem pre_ps (n:Nat) (Z:List Tok):pPs (n+2) ((ky.drop 8).take 7++Z)=.ok [⟨⟨#[120]⟩,1⟩,⟨⟨#[98]⟩,2⟩] Z:=by
 show yr (n+2) [] ((ky.drop 9).take 6++Z)=_
 rw[yr]
 show yr (n+1) [⟨⟨#[120]⟩,1⟩] ((ky.drop 12).take 3++Z)=_
 rw[yr]
 rfl
theorem pre_f (n:Nat) (Y:List Tok):jg (n+3) ⟨[arA],[]⟩ (ky.drop 6++Y)=((yd (n+1) 1 [] Y).bind fun b r=>PR.ok (kE b) r).bind fun f r=>jg (n+2) ⟨[arA],[f]⟩ r:=by
 rw[pr_step]
 show ((pPs (n+2) ((ky.drop 8).take 7++(⟨2,[123],0⟩ :: Y))).bind fun ps r=>(pB (n+2) 1 r).bind fun b r=>PR.ok ⟨fB,1,ps,b⟩ r).bind (fun f r=>jg (n+2) ⟨[arA],[f]⟩ r)=_
 rw[pre_ps]
 show ((pB (n+2) 1 (⟨2,[123],0⟩ :: Y)).bind fun b r=>PR.ok (kE b) r).bind (fun f r=>jg (n+2) ⟨[arA],[f]⟩ r)=_
 rw[pB]
 rfl
theorem pre_eq (m:Nat) (Y:List Tok):jg (m+4) ⟨[],[]⟩ (ky++Y)=((yd (m+1) 1 [] Y).bind fun b r=>PR.ok (kE b) r).bind fun f r=>jg (m+2) ⟨[arA],[f]⟩ r:=by
 rw[←pre_f,←pre_a]
 rfl
theorem suf_40 (f:Fu):jg 40 ⟨[arA],[f]⟩ (jO.tail++[kT])=.ok ⟨[arA],[f,xv]⟩ [kT]:=by kernel_rfl
theorem suf_eq (m:Nat) (f:Fu):jg (m+40) ⟨[arA],[f]⟩ (jO.tail++[kT])=.ok ⟨[arA],[f,xv]⟩ [kT]:=by
 rw[Nat.add_comm,pPr_more (n:=40) (by rw[suf_40];trivial) m,suf_40]
theorem pr_end {n:Nat} {p q:Pr} {l r:List Tok} (h:yQ l=3) (hp:jg (n+1) p l=.ok q r):q=p:=by
 rw[pr_step,if_pos h]at hp
 injection hp with hp _
 exact hp.symm
theorem pr_no {n:Nat} {p q:Pr} {l r:List Tok} (h:yQ l≠3) (h1:z9 x8 l=false) (h2:z9 jf l=false):jg (n+1) p l≠.ok q r:=by
 intro hp
 rw[pr_step,if_neg h]at hp
 unfold yt zI at hp
 rw[h1,h2]at hp
 simp[PR.bind]at hp
theorem pr_keeps:∀ (n:Nat) (p q:Pr) (l r:List Tok),jg n p l=.ok q r→∃ qs fs,q=⟨p.arrays++qs,p.funcs++fs⟩
 | 0,_,_,_,_,h=>by cases h
 | n+1,p,q,l,r,h=>by
   rw[pr_step]at h
   split at h
   · injection h with h _
     exact⟨[],[],by rw[List.append_nil,List.append_nil,←h]⟩
   · obtain⟨t,r1,_,h1⟩:=zC h
     obtain⟨s,r2,_,h2⟩:=zC h1
     split at h2
     · obtain⟨a,r3,_,h3⟩:=zC h2
       obtain⟨qs,fs,hq⟩:=pr_keeps n _ _ _ _ h3
       exact⟨a :: qs,fs,by rw[hq];simp⟩
     · obtain⟨a,r3,_,h3⟩:=zC h2
       obtain⟨qs,fs,hq⟩:=pr_keeps n _ _ _ _ h3
       exact⟨qs,a :: fs,by rw[hq];simp⟩
theorem suf_calm:(jO.all fun t=>decide (t.kind≠3))=true:=by kernel_rfl
theorem suf_cases:∀ j,j≤15→(j=1∨(yQ ((jO++[kT]).drop j)=3)∨(z9 x8 ((jO++[kT]).drop j)=false∧z9 jf ((jO++[kT]).drop j)=false)):=by decide+kernel
theorem behind_f {m:Nat} {f:Fu} {X Z R r:List Tok} {p:Pr} (hX:yu X=true) (hs:X++(jO++[kT])=Z++R) (hR:R≠[]) (hp:jg (m+40) ⟨[arA],[f]⟩ R=.ok p r) (h2:p.funcs.length=2):p=⟨[arA],[f,xv]⟩:=by
 rcases List.append_eq_append_iff.1 hs with⟨c,hZ,hS⟩ | ⟨a,hXa,hRa⟩
 · by_cases hk:yQ R=3
   · rw[pr_end hk hp]at h2
     cases h2
   · have hlen:c.length≤15:=by
      have:=congrArg List.length hS
      rw[List.length_append,List.length_append]at this
      have h3:jO.length=15:=rfl
      have h4:0<R.length:=List.length_pos_iff.2 hR
      simp only[List.length_singleton]at this
      omega
     have hd:R=(jO++[kT]).drop c.length:=by rw[hS,List.drop_left]
     generalize c.length=j at hlen hd
     subst hd
     have hcase:=suf_cases j hlen
     rcases hcase with rfl | h3 | ⟨h3,h4⟩
     · have he:=suf_eq m f
       change jg (m+40) ⟨[arA],[f]⟩ (jO.tail++[kT])=.ok p r at hp
       rw[he]at hp
       injection hp with hp _
       exact hp.symm
     · exact absurd h3 hk
     · exact absurd hp (pr_no hk h3 h4)
 · subst hXa
   cases a with
   | nil=>
     rw[List.nil_append]at hRa
     subst hRa
     exact absurd hp (pr_no (l:=jO++[kT]) (by decide) (by decide) (by decide))
   | cons t a=>
     subst hRa
     exact absurd hp (calm_no (calm_drop hX))
theorem toks_endL {X:List Tok} (hX:yu X=true):zw (X++(jO++[kT])):=by
 refine⟨X++jO,kT,by rw[List.append_assoc],rfl,fun t ht=>?_⟩
 rcases List.mem_append.1 ht with h | h
 · exact calm_kind hX t h
 · exact of_decide_eq_true (List.all_eq_true.1 suf_calm t h)
theorem body_form {X r:List Tok} {p:Pr} (hX:yu X=true) (h:qA (ky++(X++(jO++[kT])))=.ok p r):
 (∃ body fs qs,p=⟨arA :: qs,kE body :: fs⟩)∧(p.funcs.length=2→∃ body,p=⟨[arA],[kE body,xv]⟩):=by
 unfold qA at h
 have hl:(ky++(X++(jO++[kT]))).length=X.length+32:=by
  rw[List.length_append,List.length_append]
  show 16+(X.length+16)=_
  omega
 rw[hl,show 20 * (X.length+32)+40=(20 * X.length+676)+4 by omega,pre_eq]at h
 obtain⟨f,R,h1,h2⟩:=zC h
 obtain⟨b,R2,h3,h4⟩:=zC h1
 injection h4 with h4 h5
 subst h4
 subst h5
 obtain⟨qs,fs,hq⟩:=pr_keeps _ _ _ _ _ h2
 refine⟨⟨b,fs,qs,hq⟩,fun hlen=>⟨b,?_⟩⟩
 have hf:=(fits_stmt (20 * X.length+676+1)).2.2.2 1 [] _ (toks_endL hX)
 rw[h3]at hf
 obtain⟨⟨Z,hZ⟩,hE,_⟩:=hf
 exact behind_f (m:=20 * X.length+638) hX hZ.symm hE.ne h2 hlen
end Go.Proofs.YtndgkfkieogplaaDoor
