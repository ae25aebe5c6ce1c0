import Derived.Test.YtndgkfkieogplaaDoorAgParLexS
set_option linter.unusedSimpArgs false
set_option linter.unusedVariables false
set_option maxRecDepth 100000
/- How long the text of a parsed program may be: no Go, no program. -/
namespace Go.Proofs.YtndgkfkieogplaaDoor
open Lib (hid)
open Go.RowKit
theorem vi {α:Type} {x:PR α} {a:α} {r:List Tok} (h:q9 x=.ok a r):∃ r1,x=.ok a r1∧xR r1=1+xR r∧(Tk r1→Tk r):=by
 unfold q9 at h
 obtain⟨b,r1,h1,h2⟩:=zC h
 obtain⟨u,r2,h3,h4⟩:=zC h2
 injection h4 with h5 h6
 subst h5 h6
 have m:=qS h3
 exact⟨r1,h1,m.1,m.2⟩
theorem pTy_size {l r:List Tok} {t:Int} (k:Tk l) (h:yt l=.ok t r):3+xR r≤xR l∧Tk r∧(tyT t).length≤4:=by
 unfold yt at h
 split at h
 · rename_i hs
   injection h with h5 h6
   subst h5 h6
   have hb:=qN hs
   simp only[x8,List.length_cons,List.length_nil]at hb
   exact⟨by omega,k.tail,by decide⟩
 · obtain⟨u,r1,h1,h2⟩:=zC h
   injection h2 with h5 h6
   subst h5 h6
   have m:=qS h1
   have e1:=m.1
   simp only[jf,List.length_cons,List.length_nil]at e1
   exact⟨by omega,m.2 k,by decide⟩
theorem pI_size {n:Nat} {l r:List Tok} {e:Ex} (k:Tk l) (h:pI n l=.ok e r):EX e+50 * xR r+100≤50 * xR l∧Tk r:=by
 unfold pI at h
 obtain⟨u,r1,h1,h2⟩:=zC h
 obtain⟨a,r2,h3,h4⟩:=zC h2
 obtain⟨v,r3,h5,h6⟩:=zC h4
 injection h6 with h6 h7
 subst h6 h7
 have m1:=qS h1
 have a1:=pE_size (m1.2 k) h3
 have m2:=qS h5
 have e1:=m1.1
 have e2:=m2.1
 simp only[List.length_cons,List.length_nil]at e1 e2
 exact⟨by omega,m2.2 a1.2⟩
theorem tab_len (t:Nat):(tabT t).length=t:=List.length_replicate
theorem zAa {k ty:Int} {name:ByteArray} {args:List Ex} {thn els:List St} (h4:k≠4) (h5:k≠5) (t:Nat):(stT (.mk k ty name args thn els) t).length=t+(kp k ty name args).length+1:=by
 rw[stT_mk,if_neg h4,if_neg h5,List.length_append,List.length_append,tab_len]
 simp
 omega
theorem st_len4 (e:Ex) (thn els:List St) (t:Nat):(stT (.mk 4 0 bE [e] thn els) t).length≤2 * t+8+EX e+(xP thn (t+1)).length+(if els.length=0 then 0 else t+9+(xP els (t+1)).length):=by
 have hk:kp 4 0 bE [e]=sIf++32 :: (40 :: (yB e++[41,32,123])):=by rw[←qw e []];rfl
 rw[stT_mk,hk,if_pos (by rfl)]
 unfold EX
 split <;> simp only[List.length_append,List.length_cons,List.length_nil,tab_len,sIf] <;> omega
theorem st_len5 (e:Ex) (thn:List St) (t:Nat):(stT (.mk 5 0 bE [e] thn []) t).length=2 * t+11+EX e+(xP thn (t+1)).length:=by
 have hk:kp 5 0 bE [e]=kH++32 :: (40 :: (yB e++[41,32,123])):=by rw[←qw e []];rfl
 rw[stT_mk,hk,if_neg (by decide),if_pos (by rfl)]
 unfold EX
 simp only[List.length_append,List.length_cons,List.length_nil,tab_len,kH]
 omega
theorem pNm_size {n:Nat} {l r:List Tok} {s:St} (k:Tk l) (h:pNm n l=.ok s r):(∀ t,(stT s t).length+50 * xR r+90≤t+50 * xR l)∧Tk r:=by
 unfold pNm at h
 obtain⟨nm,r1,h1,h2⟩:=zC h
 have w:=uy h1
 have w1:=w.1
 have w2:=w.2.1 k
 have w3:=w.2.2 k
 split at h2
 · rename_i hs
   obtain⟨es,r2,h3,h4⟩:=zC h2
   injection h4 with h6 h7
   subst h6 h7
   have hb:=qN hs
   have a1:=pA_size w2.tail h3
   simp only[List.length_cons,List.length_nil]at hb
   refine⟨fun t=>?_,a1.2⟩
   have hk:kp 10 0 bE [.mk 7 0 0 nm es]=yB (.mk 7 0 0 nm es)++[59]:=by rw[←qw (.mk 7 0 0 nm es) []];rfl
   have he:=EX_call nm es
   unfold EX at he
   rw[zAa (by decide) (by decide),hk]
   simp only[List.length_append,List.length_cons,List.length_nil]
   omega
 · split at h2
   · rename_i hs
     obtain⟨a,r2,h3,h4⟩:=zC h2
     obtain⟨u,r3,h5,h6⟩:=zC h4
     obtain⟨v,r4,h7,h8⟩:=zC h6
     obtain⟨b,r5,h9,h10⟩:=zC h8
     injection h10 with h11 h12
     subst h11 h12
     have hb:=qN hs
     have a1:=pE_size w2.tail h3
     have m1:=qS h5
     have m2:=qS h7
     have a2:=pE_size (m2.2 (m1.2 a1.2)) h9
     have e1:=m1.1
     have e2:=m2.1
     simp only[List.length_cons,List.length_nil]at hb e1 e2
     refine⟨fun t=>?_,a2.2⟩
     have hk:kp 3 0 nm [a,b]=nm.data.toList++91 :: (yB a++93 :: 32 :: 61 :: 32 :: (yB b++[59])):=by rw[←qw a [b],←argT_two a b []];rfl
     unfold EX at *
     rw[zAa (by decide) (by decide),hk]
     simp only[List.length_append,List.length_cons,List.length_nil,bsz]
     omega
   · obtain⟨u,r2,h3,h4⟩:=zC h2
     obtain⟨a,r3,h5,h6⟩:=zC h4
     injection h6 with h7 h8
     subst h7 h8
     have m1:=qS h3
     have a1:=pE_size (m1.2 w2) h5
     have e1:=m1.1
     simp only[List.length_cons,List.length_nil]at e1
     refine⟨fun t=>?_,a1.2⟩
     have hk:kp 2 0 nm [a]=nm.data.toList++32 :: 61 :: 32 :: (yB a++[59]):=by rw[←qw a []];rfl
     unfold EX at *
     rw[zAa (by decide) (by decide),hk]
     simp only[List.length_append,List.length_cons,List.length_nil,bsz]
     omega
theorem size_stmt (n:Nat):(∀ d l s r,Tk l→pS n d l=.ok s r→(∀ t:Nat,(t:Int)≤d→(stT s t).length+50 * xR r≤50 * xR l)∧Tk r)∧
 (∀ d e thn l s r,d≤100→Tk l→vV n d e thn l=.ok s r→(∀ t:Nat,(t:Int)≤d→(stT s t).length+50 * xR r≤2 * t+8+EX e+(xP thn (t+1)).length+50 * xR l)∧Tk r)∧
 (∀ d l b r,Tk l→pB n d l=.ok b r→(∀ t:Nat,(t:Int)≤d→(xP b t).length+50 * xR r+100≤50 * xR l)∧Tk r)∧
 (∀ d acc l b r,Tk l→yd n d acc l=.ok b r→(∀ t:Nat,(t:Int)≤d→(xP b t).length+50 * xR r+50≤(xP acc t).length+50 * xR l)∧Tk r):=by
 induction n with
 | zero=>exact⟨fun _ _ _ _ _ h=>(by rw[pS]at h;cases h),fun _ _ _ _ _ _ _ _ h=>(by rw[vV]at h;cases h),fun _ _ _ _ _ h=>(by rw[pB]at h;cases h),fun _ _ _ _ _ _ h=>(by rw[yd]at h;cases h)⟩
 | succ n ih=>
   obtain⟨iS,iEl,iB,iBL⟩:=ih
   refine⟨fun d l s r k h=>?_,fun d e thn l s r hd k h=>?_,fun d l b r k h=>?_,fun d acc l b r k h=>?_⟩
   · rw[pS]at h
     split at h
     · cases h
     · rename_i hd
       split at h
       · obtain⟨q,h0,q1,q2⟩:=vi h
         obtain⟨ty,r1,h1,h2⟩:=zC h0
         obtain⟨nm,r2,h3,h4⟩:=zC h2
         obtain⟨u,r3,h5,h6⟩:=zC h4
         obtain⟨e,r4,h7,h8⟩:=zC h6
         injection h8 with h9 h10
         subst h9 h10
         have p1:=pTy_size k h1
         have w:=uy h3
         have w1:=w.1
         have w3:=w.2.2 p1.2.1
         have m1:=qS h5
         have e1:=m1.1
         simp only[List.length_cons,List.length_nil]at e1
         have a1:=pE_size (m1.2 (w.2.1 p1.2.1)) h7
         refine⟨fun t ht=>?_,q2 a1.2⟩
         have hk:kp 1 ty nm [e]=tyT ty++32 :: (nm.data.toList++32 :: 61 :: 32 :: (yB e++[59])):=by rw[←qw e []];rfl
         unfold EX at *
         rw[zAa (by decide) (by decide),hk]
         simp only[List.length_append,List.length_cons,List.length_nil,bsz]
         omega
       · split at h
         · rename_i hs
           have hb:=qN hs
           simp only[sIf,List.length_cons,List.length_nil]at hb
           obtain⟨e,r1,h1,h2⟩:=zC h
           obtain⟨b,r2,h3,h4⟩:=zC h2
           have p1:=pI_size k.tail h1
           have p2:=iB _ _ _ _ p1.2 h3
           have p3:=iEl _ _ _ _ _ _ (by omega) p2.2 h4
           refine⟨fun t ht=>?_,p3.2⟩
           have b1:=p2.1 (t+1) (by omega)
           have b2:=p3.1 t ht
           omega
         · split at h
           · rename_i hs
             have hb:=qN hs
             simp only[kH,List.length_cons,List.length_nil]at hb
             obtain⟨e,r1,h1,h2⟩:=zC h
             obtain⟨b,r2,h3,h4⟩:=zC h2
             injection h4 with h5 h6
             subst h5 h6
             have p1:=pI_size k.tail h1
             have p2:=iB _ _ _ _ p1.2 h3
             refine⟨fun t ht=>?_,p2.2⟩
             have b1:=p2.1 (t+1) (by omega)
             rw[st_len5]
             omega
           · split at h
             · rename_i hs
               have hb:=qN hs
               simp only[xd,List.length_cons,List.length_nil]at hb
               obtain⟨q,h0,q1,q2⟩:=vi h
               injection h0 with h5 h6
               subst h5 h6
               refine⟨fun t ht=>?_,q2 k.tail⟩
               have hk:(kp 6 0 bE []).length=6:=by rfl
               rw[zAa (by decide) (by decide),hk]
               omega
             · split at h
               · rename_i hs
                 have hb:=qN hs
                 simp only[u6,List.length_cons,List.length_nil]at hb
                 obtain⟨q,h0,q1,q2⟩:=vi h
                 injection h0 with h5 h6
                 subst h5 h6
                 refine⟨fun t ht=>?_,q2 k.tail⟩
                 have hk:(kp 7 0 bE []).length=9:=by rfl
                 rw[zAa (by decide) (by decide),hk]
                 omega
               · split at h
                 · rename_i hs
                   have hb:=qN hs
                   simp only[sRet,List.length_cons,List.length_nil]at hb
                   obtain⟨q,h0,q1,q2⟩:=vi h
                   obtain⟨e,r1,h1,h2⟩:=zC h0
                   injection h2 with h5 h6
                   subst h5 h6
                   have a1:=pE_size k.tail h1
                   refine⟨fun t ht=>?_,q2 a1.2⟩
                   have hk:kp 8 0 bE [e]=sRet++32 :: (yB e++[59]):=by rw[←qw e []];rfl
                   unfold EX at *
                   rw[zAa (by decide) (by decide),hk]
                   simp only[List.length_append,List.length_cons,List.length_nil,sRet]
                   omega
                 · split at h
                   · rename_i hs
                     have hb:=qN hs
                     simp only[yN,List.length_cons,List.length_nil]at hb
                     obtain⟨q,h0,q1,q2⟩:=vi h
                     obtain⟨e,r1,h1,h2⟩:=zC h0
                     injection h2 with h5 h6
                     subst h5 h6
                     have a1:=pI_size k.tail h1
                     refine⟨fun t ht=>?_,q2 a1.2⟩
                     have hk:kp 9 0 bE [e]=yN++40 :: (yB e++[41,59]):=by rw[←qw e []];rfl
                     unfold EX at *
                     rw[zAa (by decide) (by decide),hk]
                     simp only[List.length_append,List.length_cons,List.length_nil,yN]
                     omega
                   · obtain⟨q,h0,q1,q2⟩:=vi h
                     have a1:=pNm_size k h0
                     refine⟨fun t ht=>?_,q2 a1.2⟩
                     have:=a1.1 t
                     omega
   · rw[vV]at h
     split at h
     · rename_i hs
       have hb:=qN hs
       simp only[yD,List.length_cons,List.length_nil]at hb
       obtain⟨b,r1,h1,h2⟩:=zC h
       injection h2 with h5 h6
       subst h5 h6
       have p2:=iB _ _ _ _ k.tail h1
       refine⟨fun t ht=>?_,p2.2⟩
       have b1:=p2.1 (t+1) (by omega)
       have:=st_len4 e thn b t
       split at this <;> omega
     · injection h with h5 h6
       subst h5 h6
       refine⟨fun t ht=>?_,k⟩
       have:=st_len4 e thn [] t
       rw[if_pos (by rfl)]at this
       omega
   · rw[pB]at h
     obtain⟨u,r1,h1,h2⟩:=zC h
     have m1:=qS h1
     have e1:=m1.1
     simp only[List.length_cons,List.length_nil]at e1
     have p1:=iBL _ _ _ _ _ (m1.2 k) h2
     refine⟨fun t ht=>?_,p1.2⟩
     have:=p1.1 t ht
     rw[stsT_nil]at this
     simp only[List.length_nil]at this
     omega
   · rw[yd]at h
     split at h
     · rename_i hs
       have hb:=qN hs
       simp only[List.length_cons,List.length_nil]at hb
       injection h with h5 h6
       subst h5 h6
       exact⟨fun t ht=>by omega,k.tail⟩
     · obtain⟨s,r1,h1,h2⟩:=zC h
       have p1:=iS _ _ _ _ k h1
       have p2:=iBL _ _ _ _ _ p1.2 h2
       refine⟨fun t ht=>?_,p2.2⟩
       have b1:=p1.1 t ht
       have b2:=p2.1 t ht
       rw[stsT_app,stsT_cons,stsT_nil,List.append_nil,List.length_append]at b2
       omega
theorem pB_size {n:Nat} {d:Int} {l r:List Tok} {b:List St} (k:Tk l) (h:pB n d l=.ok b r):(∀ t:Nat,(t:Int)≤d→(xP b t).length+50 * xR r+100≤50 * xR l)∧Tk r:=(size_stmt n).2.2.1 _ _ _ _ k h
def PX (l:List Pa):Nat:=(qu (l.map paT)).length
theorem PX_snoc (l:List Pa) (x:Pa):PX (l++[x])≤PX l+((tyT x.type).length+x.name.size+3):=by
 unfold PX
 rw[List.map_append,List.map_cons,List.map_nil,joinC_snoc,List.length_append,List.length_append]
 have:(paT x).length=(tyT x.type).length+x.name.size+1:=by
  unfold paT
  rw[List.length_append,List.length_cons,bsz]
  omega
 split <;> simp <;> omega
theorem pPL_size:∀ (n:Nat) (acc:List Pa) (l:List Tok) (ps:List Pa) (r:List Tok),Tk l→yr n acc l=.ok ps r→PX ps+50 * xR r≤PX acc+50 * xR l∧Tk r
 | 0,_,_,_,_,_,h=>by rw[yr]at h;cases h
 | n+1,acc,l,ps,r,k,h=>by
   rw[yr]at h
   obtain⟨ty,r1,h1,h2⟩:=zC h
   obtain⟨nm,r2,h3,h4⟩:=zC h2
   have p1:=pTy_size k h1
   have w:=uy h3
   have w1:=w.1
   have w3:=w.2.2 p1.2.1
   have hx:=PX_snoc acc ⟨nm,ty⟩
   simp only at hx
   split at h4
   · rename_i hs
     have hb:=qN hs
     have a1:=pPL_size n _ _ _ _ (w.2.1 p1.2.1).tail h4
     exact⟨by omega,a1.2⟩
   · obtain⟨u,r3,h5,h6⟩:=zC h4
     injection h6 with h7 h8
     subst h7 h8
     have m1:=qS h5
     have e1:=m1.1
     exact⟨by omega,m1.2 (w.2.1 p1.2.1)⟩
theorem pPs_size {n:Nat} {l r:List Tok} {ps:List Pa} (k:Tk l) (h:pPs n l=.ok ps r):PX ps+50 * xR r+50≤50 * xR l∧Tk r:=by
 unfold pPs at h
 obtain⟨u,r1,h1,h2⟩:=zC h
 have m1:=qS h1
 have e1:=m1.1
 simp only[List.length_cons,List.length_nil]at e1
 have h0:PX []=0:=rfl
 split at h2
 · rename_i hs
   have hb:=qN hs
   injection h2 with h5 h6
   subst h5 h6
   exact⟨by omega,(m1.2 k).tail⟩
 · have a1:=pPL_size n _ _ _ _ (m1.2 k) h2
   exact⟨by omega,a1.2⟩
theorem fu_len (f:Fu):(fuT f).length=(tyT f.type).length+f.name.size+PX f.params+(xP f.body 1).length+8:=by
 unfold fuT PX
 simp only[List.length_append,List.length_cons,List.length_nil,bsz]
 omega
theorem pFn_size {n:Nat} {t:Int} {s:ByteArray} {l r:List Tok} {f:Fu} (k:Tk l) (ht:(tyT t).length≤4) (h:uh n t s l=.ok f r):(fuT f).length+50 * xR r+100≤s.size+50 * xR l∧Tk r:=by
 unfold uh at h
 obtain⟨ps,r1,h1,h2⟩:=zC h
 obtain⟨b,r2,h3,h4⟩:=zC h2
 injection h4 with h5 h6
 subst h5 h6
 have p1:=pPs_size k h1
 have p2:=pB_size p1.2 h3
 have b1:=p2.1 1 (by decide)
 rw[fu_len]
 simp only
 exact⟨by omega,p2.2⟩
theorem want0_byt {l r:List Tok} {s:ByteArray} (k:Tk l) (h:zy 0 l=.ok s r):xR l=s.size+xR r∧Tk r∧(Lib.itoa ((jH 0 s.data.toList:Nat):Int)).length≤s.size∧1≤s.size:=by
 unfold zy at h
 split at h
 · rename_i hk
   injection h with h1 h
   have hd:s.data.toList=hdT l:=by rw[←h1]
   have hs:s.size=(hdT l).length:=by rw[←hd];exact(bsz s).symm
   have hg:(hdT l).all jG=true∧1≤(hdT l).length:=by
    cases l with
    | nil=>cases hk
    | cons t q=>exact(k t (by simp)).2 hk
   refine⟨by rw[hs,←h];exact byt_tail l,h ▸ k.tail,?_,by rw[hs];exact hg.2⟩
   rw[hd,hs]
   exact num_len hg.1 hg.2
 · cases h
theorem ar_len (a:Ar):(arT a).length=a.name.size+(Lib.itoa a.size).length+8:=by
 unfold arT
 simp only[List.length_append,List.length_cons,List.length_nil,bsz]
 omega
theorem pArr_size {s:ByteArray} {l r:List Tok} {a:Ar} (k:Tk l) (h:vc s l=.ok a r):(arT a).length+50 * xR r+100≤s.size+50 * xR l∧Tk r:=by
 unfold vc at h
 obtain⟨t,r1,h1,h2⟩:=zC h
 obtain⟨u,r2,h3,h4⟩:=zC h2
 obtain⟨v,r3,h5,h6⟩:=zC h4
 injection h6 with h7 h8
 subst h7 h8
 have w:=want0_byt k h1
 have w1:=w.1
 have w2:=w.2.2.1
 have w3:=w.2.2.2
 have m1:=qS h3
 have m2:=qS h5
 have e1:=m1.1
 have e2:=m2.1
 simp only[List.length_cons,List.length_nil]at e1 e2
 rw[ar_len]
 simp only
 exact⟨by omega,m2.2 (m1.2 w.2.1)⟩
theorem pPr_size:∀ (n:Nat) (p:Pr) (l:List Tok) (q:Pr) (r:List Tok),Tk l→jg n p l=.ok q r→(prT q).length+50 * xR r≤(prT p).length+50 * xR l
 | 0,_,_,_,_,_,h=>by rw[jg]at h;cases h
 | n+1,p,l,q,r,k,h=>by
   rw[jg]at h
   split at h
   · injection h with h1 h2
     subst h1 h2
     exact Nat.le_refl _
   · obtain⟨ty,r1,h1,h2⟩:=zC h
     obtain⟨nm,r2,h3,h4⟩:=zC h2
     have p1:=pTy_size k h1
     have w:=uy h3
     have w1:=w.1
     have w3:=w.2.2 p1.2.1
     split at h4
     · rename_i hs
       have hb:=qN hs.2.2
       obtain⟨a,r3,h5,h6⟩:=zC h4
       have a1:=pArr_size (w.2.1 p1.2.1).tail h5
       have a2:=pPr_size n _ _ _ _ a1.2 h6
       have e:(prT ⟨p.arrays++[a],p.funcs⟩).length=(prT p).length+(arT a).length:=by
        unfold prT
        simp only[List.map_append,List.flatten_append,List.length_append,List.map_cons,List.map_nil,List.flatten_cons,List.flatten_nil,List.append_nil]
        omega
       omega
     · obtain⟨f,r3,h5,h6⟩:=zC h4
       have a1:=pFn_size (w.2.1 p1.2.1) p1.2.2 h5
       have a2:=pPr_size n _ _ _ _ a1.2 h6
       have e:(prT ⟨p.arrays,p.funcs++[f]⟩).length=(prT p).length+(fuT f).length:=by
        unfold prT
        simp only[List.map_append,List.flatten_append,List.length_append,List.map_cons,List.map_nil,List.flatten_cons,List.flatten_nil,List.append_nil]
        omega
       omega
theorem parseT_size {ts r:List Tok} {p:Pr} (k:Tk ts) (h:qA ts=.ok p r):(prT p).length≤50 * xR ts:=by
 have:=pPr_size _ _ _ _ _ k h
 have e:(prT ⟨[],[]⟩).length=0:=rfl
 omega
theorem kindT_dig {t:List UInt8} (h:jR t=some 0):t.all jG=true:=by
 unfold jR at h
 split at h
 · injection h with h
   omega
 · split at h
   · injection h with h
     omega
   · split at h
     · rename_i hn
       simp only[kO,Bool.and_eq_true,decide_eq_true_eq]at hn
       exact hn.1.1.2
     · cases h
theorem one_tk {l t:List UInt8} {k:Int} (h:one l=some (k,t)):1≤t.length∧t.length≤l.length∧(k=0→t.all jG=true):=by
 unfold one at h
 split at h
 · rename_i hne
   cases hk:jR (l.takeWhile zd) with
   | none=>rw[hk]at h;cases h
   | some j=>
     rw[hk]at h
     injection h with h
     injection h with h1 h2
     subst h1 h2
     exact⟨List.length_pos_iff.2 hne,(List.takeWhile_prefix _).length_le,fun e=>kindT_dig (e ▸ hk)⟩
 · split at h
   · rename_i hne
     injection h with h
     injection h with h1 h2
     subst h1 h2
     refine⟨List.length_pos_iff.2 hne,?_,fun e=>by omega⟩
     unfold kQ
     cases hf:zn.find? (fun t=>Lib.hasPrefix l t) with
     | none=>simp
     | some u=>
       have hp:=List.find?_some hf
       exact(List.isPrefixOf_iff_prefix.1 hp).length_le
   · cases h
theorem scan_tk:∀ (n:Nat) (l:List UInt8) (line:Nat) (ts:List Tok),l.length≤n→zN l line=(ts,none)→Tk ts∧xR ts≤l.length
 | _,[],line,ts,_,h=>by
   rw[zN]at h
   injection h with h _
   subst h
   refine⟨fun t ht=>?_,Nat.le_refl _⟩
   obtain rfl:=List.mem_singleton.1 ht
   exact⟨fun h=>(by cases h),fun h=>(by cases h)⟩
 | 0,c :: r,line,ts,h,_=>by simp at h
 | n+1,c :: r,line,ts,hl,h=>by
   simp only[List.length_cons]at hl ⊢
   rw[zN]at h
   split at h
   · have:=scan_tk n r _ ts (by omega) h
     exact⟨this.1,by omega⟩
   · split at h
     · have:=scan_tk n r _ ts (by omega) h
       exact⟨this.1,by omega⟩
     · split at h
       · have h1:=List.IsSuffix.length_le (List.dropWhile_suffix (l:=r) (fun d:UInt8=>d.toNat != 10))
         have:=scan_tk n _ _ ts (by omega) h
         exact⟨this.1,by omega⟩
       · split at h
         · cases h
         · rename_i k t hone
           have h1:(r.drop (t.length-1)).length=r.length-(t.length-1):=List.length_drop
           obtain⟨o1,o2,o3⟩:=one_tk hone
           rw[List.length_cons]at o2
           injection h with e1 e2
           obtain⟨i1,i2⟩:=scan_tk n (r.drop (t.length-1)) line (zN (r.drop (t.length-1)) line).1 (by omega) (by rw[←e2])
           subst e1
           refine⟨fun u hu=>?_,?_⟩
           · rcases List.mem_cons.1 hu with rfl | hu
             · exact⟨fun _=>o1,fun hk=>⟨o3 hk,o1⟩⟩
             · exact i1 u hu
           · show t.length+xR _≤_
             omega
theorem parsed_len {l:List UInt8} {line:Nat} {ts r:List Tok} {p:Pr} (h:zN l line=(ts,none)) (hp:qA ts=.ok p r):(prT p).length≤50 * l.length:=by
 have h1:=scan_tk _ _ _ _ (Nat.le_refl _) h
 have h2:=parseT_size h1.1 hp
 omega
def Tn (l:List Tok):Prop:=∀ t ∈ l,t.kind=0→jH 0 t.text≤9223372036854775807
theorem Tn.tail {l:List Tok} (h:Tn l):Tn l.tail:=fun t ht=>h t (List.mem_of_mem_tail ht)
theorem qi {s:List UInt8} {l r:List Tok} {u:Unit} (k:Tn l) (h:zI s l=.ok u r):Tn r:=by
 unfold zI at h
 split at h
 · injection h with _ h
   exact h ▸ k.tail
 · cases h
theorem want_tn {j:Int} {l r:List Tok} {s:ByteArray} (k:Tn l) (h:zy j l=.ok s r):Tn r:=by
 unfold zy at h
 split at h
 · injection h with _ h
   exact h ▸ k.tail
 · cases h
theorem exN_of {k op:Int} {name:ByteArray} {args:List Ex} (h:xg args=true):exN (.mk k op 0 name args)=true:=by
 rw[uI,h]
 rfl
theorem exsN_app (a b:List Ex):xg (a++b)=(xg a && xg b):=by
 induction a with
 | nil=>rw[jx];rfl
 | cons e r ih=>rw[List.cons_append,jB,jB,ih,Bool.and_assoc]
theorem xj {e:Ex} (h:exN e=true):xg [e]=true:=by rw[jB,h,jx];rfl
theorem exsN_2 {a b:Ex} (h:exN a=true) (k:exN b=true):xg [a,b]=true:=by rw[jB,h,xj k];rfl
theorem nums_expr (n:Nat):(∀ lev d l e r,Tn l→pE n lev d l=.ok e r→exN e=true∧Tn r)∧(∀ lev d a l e r,exN a=true→Tn l→pL n lev d a l=.ok e r→exN e=true∧Tn r)∧
 (∀ d l e r,Tn l→pU n d l=.ok e r→exN e=true∧Tn r)∧(∀ d l e r,Tn l→pP n d l=.ok e r→exN e=true∧Tn r)∧
 (∀ d s l e r,Tn l→pN n d s l=.ok e r→exN e=true∧Tn r)∧(∀ d l es r,Tn l→pA n d l=.ok es r→xg es=true∧Tn r)∧(∀ d acc l es r,xg acc=true→Tn l→yq n d acc l=.ok es r→xg es=true∧Tn r):=by
 induction n with
 | zero=>exact⟨fun _ _ _ _ _ _ h=>(by rw[pE]at h;cases h),fun _ _ _ _ _ _ _ _ h=>(by rw[pL]at h;cases h),fun _ _ _ _ _ h=>(by rw[pU]at h;cases h),fun _ _ _ _ _ h=>(by rw[pP]at h;cases h),fun _ _ _ _ _ _ h=>(by rw[pN]at h;cases h),fun _ _ _ _ _ h=>(by rw[pA]at h;cases h),fun _ _ _ _ _ _ _ h=>(by rw[yq]at h;cases h)⟩
 | succ n ih=>
   obtain⟨iE,iL,iU,iP,iN,iA,iAL⟩:=ih
   refine⟨fun lev d l e r k h=>?_,fun lev d a l e r ha k h=>?_,fun d l e r k h=>?_,fun d l e r k h=>?_,fun d s l e r k h=>?_,fun d l es r k h=>?_,fun d acc l es r ha k h=>?_⟩
   · rw[pE]at h
     split at h
     · exact iU _ _ _ _ k h
     · obtain⟨a,r1,h1,h2⟩:=zC h
       have a1:=iE _ _ _ _ _ k h1
       exact iL _ _ _ _ _ _ a1.1 a1.2 h2
   · rw[pL]at h
     split at h
     · injection h with h1 h2
       subst h1 h2
       exact⟨ha,k⟩
     · obtain⟨b,r1,h1,h2⟩:=zC h
       have a1:=iE _ _ _ _ _ k.tail h1
       exact iL _ _ _ _ _ _ (exN_of (exsN_2 ha a1.1)) a1.2 h2
   · rw[pU]at h
     split at h
     · cases h
     · split at h
       · exact iP _ _ _ _ k h
       · split at h
         · obtain⟨u,r1,h1,h2⟩:=zC h
           obtain⟨a,r2,h3,h4⟩:=zC h2
           obtain⟨v,r3,h5,h6⟩:=zC h4
           injection h6 with h6 h7
           subst h6 h7
           have a1:=iE _ _ _ _ _ (qi k.tail h1) h3
           exact⟨exN_of (xj a1.1),qi a1.2 h5⟩
         · obtain⟨a,r2,h3,h4⟩:=zC h
           injection h4 with h6 h7
           subst h6 h7
           have a1:=iU _ _ _ _ k.tail h3
           exact⟨exN_of (xj a1.1),a1.2⟩
   · rw[pP]at h
     split at h
     · obtain⟨a,r2,h3,h4⟩:=zC h
       obtain⟨v,r3,h5,h6⟩:=zC h4
       injection h6 with h6 h7
       subst h6 h7
       have a1:=iE _ _ _ _ _ k.tail h3
       exact⟨a1.1,qi a1.2 h5⟩
     · split at h
       · injection h with h6 h7
         subst h6 h7
         exact⟨by decide+kernel,k.tail⟩
       · split at h
         · injection h with h6 h7
           subst h6 h7
           exact⟨by decide+kernel,k.tail⟩
         · split at h
           · obtain⟨u,r1,h1,h2⟩:=zC h
             obtain⟨v,r3,h5,h6⟩:=zC h2
             injection h6 with h6 h7
             subst h6 h7
             exact⟨by decide+kernel,qi (qi k.tail h1) h5⟩
           · split at h
             · rename_i hk
               injection h with h6 h7
               subst h6 h7
               refine⟨?_,k.tail⟩
               rw[uI,jx,Bool.and_true,decide_eq_true_eq]
               cases l with
               | nil=>cases hk
               | cons t q=>
                 have:=k t (by simp) hk
                 show ((jH 0 t.text:Nat):Int)≤_
                 omega
             · obtain⟨s,r1,h1,h2⟩:=zC h
               exact iN _ _ _ _ _ (want_tn k h1) h2
   · rw[pN]at h
     split at h
     · obtain⟨es,r1,h1,h2⟩:=zC h
       injection h2 with h6 h7
       subst h6 h7
       have a1:=iA _ _ _ _ k.tail h1
       exact⟨exN_of a1.1,a1.2⟩
     · split at h
       · obtain⟨a,r2,h3,h4⟩:=zC h
         obtain⟨v,r3,h5,h6⟩:=zC h4
         injection h6 with h6 h7
         subst h6 h7
         have a1:=iE _ _ _ _ _ k.tail h3
         exact⟨exN_of (xj a1.1),qi a1.2 h5⟩
       · injection h with h6 h7
         subst h6 h7
         exact⟨exN_of jx,k⟩
   · rw[pA]at h
     split at h
     · injection h with h6 h7
       subst h6 h7
       exact⟨jx,k.tail⟩
     · exact iAL _ _ _ _ _ jx k h
   · rw[yq]at h
     obtain⟨a,r2,h3,h4⟩:=zC h
     have a1:=iE _ _ _ _ _ k h3
     have hA:xg (acc++[a])=true:=by rw[exsN_app,ha,xj a1.1];rfl
     split at h4
     · exact iAL _ _ _ _ _ hA a1.2.tail h4
     · obtain⟨v,r3,h5,h6⟩:=zC h4
       injection h6 with h6 h7
       subst h6 h7
       exact⟨hA,qi a1.2 h5⟩
theorem pE_nums {n:Nat} {lev d:Int} {l r:List Tok} {e:Ex} (k:Tn l) (h:pE n lev d l=.ok e r):exN e=true∧Tn r:=(nums_expr n).1 _ _ _ _ _ k h
theorem pA_nums {n:Nat} {d:Int} {l r:List Tok} {es:List Ex} (k:Tn l) (h:pA n d l=.ok es r):xg es=true∧Tn r:=(nums_expr n).2.2.2.2.2.1 _ _ _ _ k h
theorem semi_tn {α:Type} {x:PR α} {a:α} {r:List Tok} (h:q9 x=.ok a r):∃ r1,x=.ok a r1∧(Tn r1→Tn r):=by
 unfold q9 at h
 obtain⟨b,r1,h1,h2⟩:=zC h
 obtain⟨u,r2,h3,h4⟩:=zC h2
 injection h4 with h5 h6
 subst h5 h6
 exact⟨r1,h1,fun k=>qi k h3⟩
theorem pTy_tn {l r:List Tok} {t:Int} (k:Tn l) (h:yt l=.ok t r):Tn r:=by
 unfold yt at h
 split at h
 · injection h with h5 h6
   subst h5 h6
   exact k.tail
 · obtain⟨u,r1,h1,h2⟩:=zC h
   injection h2 with h5 h6
   subst h5 h6
   exact qi k h1
theorem pI_nums {n:Nat} {l r:List Tok} {e:Ex} (k:Tn l) (h:pI n l=.ok e r):exN e=true∧Tn r:=by
 unfold pI at h
 obtain⟨u,r1,h1,h2⟩:=zC h
 obtain⟨a,r2,h3,h4⟩:=zC h2
 obtain⟨v,r3,h5,h6⟩:=zC h4
 injection h6 with h6 h7
 subst h6 h7
 have a1:=pE_nums (qi k h1) h3
 exact⟨a1.1,qi a1.2 h5⟩
theorem yi {k ty:Int} {name:ByteArray} {args:List Ex} {thn els:List St} (h1:xg args=true) (h2:xh thn=true) (h3:xh els=true):stN (.mk k ty name args thn els)=true:=by
 rw[stN_mk,h1,h2,h3]
 rfl
theorem stsN_app (a b:List St):xh (a++b)=(xh a && xh b):=by
 induction a with
 | nil=>rw[qK];rfl
 | cons e r ih=>rw[List.cons_append,vg,vg,ih,Bool.and_assoc]
theorem pNm_nums {n:Nat} {l r:List Tok} {s:St} (k:Tn l) (h:pNm n l=.ok s r):stN s=true∧Tn r:=by
 unfold pNm at h
 obtain⟨nm,r1,h1,h2⟩:=zC h
 have w2:=want_tn k h1
 split at h2
 · obtain⟨es,r2,h3,h4⟩:=zC h2
   injection h4 with h6 h7
   subst h6 h7
   have a1:=pA_nums w2.tail h3
   exact⟨yi (xj (exN_of a1.1)) qK qK,a1.2⟩
 · split at h2
   · obtain⟨a,r2,h3,h4⟩:=zC h2
     obtain⟨u,r3,h5,h6⟩:=zC h4
     obtain⟨v,r4,h7,h8⟩:=zC h6
     obtain⟨b,r5,h9,h10⟩:=zC h8
     injection h10 with h11 h12
     subst h11 h12
     have a1:=pE_nums w2.tail h3
     have a2:=pE_nums (qi (qi a1.2 h5) h7) h9
     exact⟨yi (exsN_2 a1.1 a2.1) qK qK,a2.2⟩
   · obtain⟨u,r2,h3,h4⟩:=zC h2
     obtain⟨a,r3,h5,h6⟩:=zC h4
     injection h6 with h7 h8
     subst h7 h8
     have a1:=pE_nums (qi w2 h3) h5
     exact⟨yi (xj a1.1) qK qK,a1.2⟩
theorem nums_stmt (n:Nat):(∀ d l s r,Tn l→pS n d l=.ok s r→stN s=true∧Tn r)∧(∀ d e thn l s r,exN e=true→xh thn=true→Tn l→vV n d e thn l=.ok s r→stN s=true∧Tn r)∧
 (∀ d l b r,Tn l→pB n d l=.ok b r→xh b=true∧Tn r)∧(∀ d acc l b r,xh acc=true→Tn l→yd n d acc l=.ok b r→xh b=true∧Tn r):=by
 induction n with
 | zero=>exact⟨fun _ _ _ _ _ h=>(by rw[pS]at h;cases h),fun _ _ _ _ _ _ _ _ _ h=>(by rw[vV]at h;cases h),fun _ _ _ _ _ h=>(by rw[pB]at h;cases h),fun _ _ _ _ _ _ _ h=>(by rw[yd]at h;cases h)⟩
 | succ n ih=>
   obtain⟨iS,iEl,iB,iBL⟩:=ih
   refine⟨fun d l s r k h=>?_,fun d e thn l s r he ht k h=>?_,fun d l b r k h=>?_,fun d acc l b r ha k h=>?_⟩
   · rw[pS]at h
     split at h
     · cases h
     · split at h
       · obtain⟨q,h0,q2⟩:=semi_tn h
         obtain⟨ty,r1,h1,h2⟩:=zC h0
         obtain⟨nm,r2,h3,h4⟩:=zC h2
         obtain⟨u,r3,h5,h6⟩:=zC h4
         obtain⟨e,r4,h7,h8⟩:=zC h6
         injection h8 with h9 h10
         subst h9 h10
         have a1:=pE_nums (qi (want_tn (pTy_tn k h1) h3) h5) h7
         exact⟨yi (xj a1.1) qK qK,q2 a1.2⟩
       · split at h
         · obtain⟨e,r1,h1,h2⟩:=zC h
           obtain⟨b,r2,h3,h4⟩:=zC h2
           have p1:=pI_nums k.tail h1
           have p2:=iB _ _ _ _ p1.2 h3
           exact iEl _ _ _ _ _ _ p1.1 p2.1 p2.2 h4
         · split at h
           · obtain⟨e,r1,h1,h2⟩:=zC h
             obtain⟨b,r2,h3,h4⟩:=zC h2
             injection h4 with h5 h6
             subst h5 h6
             have p1:=pI_nums k.tail h1
             have p2:=iB _ _ _ _ p1.2 h3
             exact⟨yi (xj p1.1) p2.1 qK,p2.2⟩
           · split at h
             · obtain⟨q,h0,q2⟩:=semi_tn h
               injection h0 with h5 h6
               subst h5 h6
               exact⟨yi jx qK qK,q2 k.tail⟩
             · split at h
               · obtain⟨q,h0,q2⟩:=semi_tn h
                 injection h0 with h5 h6
                 subst h5 h6
                 exact⟨yi jx qK qK,q2 k.tail⟩
               · split at h
                 · obtain⟨q,h0,q2⟩:=semi_tn h
                   obtain⟨e,r1,h1,h2⟩:=zC h0
                   injection h2 with h5 h6
                   subst h5 h6
                   have a1:=pE_nums k.tail h1
                   exact⟨yi (xj a1.1) qK qK,q2 a1.2⟩
                 · split at h
                   · obtain⟨q,h0,q2⟩:=semi_tn h
                     obtain⟨e,r1,h1,h2⟩:=zC h0
                     injection h2 with h5 h6
                     subst h5 h6
                     have a1:=pI_nums k.tail h1
                     exact⟨yi (xj a1.1) qK qK,q2 a1.2⟩
                   · obtain⟨q,h0,q2⟩:=semi_tn h
                     have a1:=pNm_nums k h0
                     exact⟨a1.1,q2 a1.2⟩
   · rw[vV]at h
     split at h
     · obtain⟨b,r1,h1,h2⟩:=zC h
       injection h2 with h5 h6
       subst h5 h6
       have p2:=iB _ _ _ _ k.tail h1
       exact⟨yi (xj he) ht p2.1,p2.2⟩
     · injection h with h5 h6
       subst h5 h6
       exact⟨yi (xj he) ht qK,k⟩
   · rw[pB]at h
     obtain⟨u,r1,h1,h2⟩:=zC h
     exact iBL _ _ _ _ _ qK (qi k h1) h2
   · rw[yd]at h
     split at h
     · injection h with h5 h6
       subst h5 h6
       exact⟨ha,k.tail⟩
     · obtain⟨s,r1,h1,h2⟩:=zC h
       have p1:=iS _ _ _ _ k h1
       exact iBL _ _ _ _ _ (by rw[stsN_app,ha,vg,p1.1,qK];rfl) p1.2 h2
theorem pB_nums {n:Nat} {d:Int} {l r:List Tok} {b:List St} (k:Tn l) (h:pB n d l=.ok b r):xh b=true∧Tn r:=(nums_stmt n).2.2.1 _ _ _ _ k h
theorem pPL_tn:∀ (n:Nat) (acc:List Pa) (l:List Tok) (ps:List Pa) (r:List Tok),Tn l→yr n acc l=.ok ps r→Tn r
 | 0,_,_,_,_,_,h=>by rw[yr]at h;cases h
 | n+1,acc,l,ps,r,k,h=>by
   rw[yr]at h
   obtain⟨ty,r1,h1,h2⟩:=zC h
   obtain⟨nm,r2,h3,h4⟩:=zC h2
   have w:=want_tn (pTy_tn k h1) h3
   split at h4
   · exact pPL_tn n _ _ _ _ w.tail h4
   · obtain⟨u,r3,h5,h6⟩:=zC h4
     injection h6 with h7 h8
     subst h7 h8
     exact qi w h5
theorem pPs_tn {n:Nat} {l r:List Tok} {ps:List Pa} (k:Tn l) (h:pPs n l=.ok ps r):Tn r:=by
 unfold pPs at h
 obtain⟨u,r1,h1,h2⟩:=zC h
 split at h2
 · injection h2 with h5 h6
   subst h5 h6
   exact(qi k h1).tail
 · exact pPL_tn n _ _ _ _ (qi k h1) h2
theorem pPr_nums:∀ (n:Nat) (p:Pr) (l:List Tok) (q:Pr) (r:List Tok),prN p=true→Tn l→jg n p l=.ok q r→prN q=true
 | 0,_,_,_,_,_,_,h=>by rw[jg]at h;cases h
 | n+1,p,l,q,r,hp,k,h=>by
   rw[jg]at h
   split at h
   · injection h with h1 h2
     subst h1 h2
     exact hp
   · obtain⟨ty,r1,h1,h2⟩:=zC h
     obtain⟨nm,r2,h3,h4⟩:=zC h2
     have w:=want_tn (pTy_tn k h1) h3
     split at h4
     · obtain⟨a,r3,h5,h6⟩:=zC h4
       refine pPr_nums n _ _ _ _ (show prN ⟨p.arrays++[a],p.funcs⟩=true from hp) ?_ h6
       unfold vc at h5
       obtain⟨t,s1,g1,g2⟩:=zC h5
       obtain⟨u,s2,g3,g4⟩:=zC g2
       obtain⟨v,s3,g5,g6⟩:=zC g4
       injection g6 with g7 g8
       subst g7 g8
       exact qi (qi (want_tn w.tail g1) g3) g5
     · obtain⟨f,r3,h5,h6⟩:=zC h4
       unfold uh at h5
       obtain⟨ps,s1,g1,g2⟩:=zC h5
       obtain⟨b,s2,g3,g4⟩:=zC g2
       injection g4 with g5 g6
       subst g5 g6
       have p2:=pB_nums (pPs_tn w g1) g3
       refine pPr_nums n _ _ _ _ ?_ p2.2 h6
       unfold prN at hp ⊢
       rw[List.all_append,hp,List.all_cons,p2.1,List.all_nil]
       rfl
theorem kindT_fit {t:List UInt8} (h:jR t=some 0):jH 0 t≤9223372036854775807:=by
 unfold jR at h
 split at h
 · injection h with h
   omega
 · split at h
   · injection h with h
     omega
   · split at h
     · rename_i hn
       simp only[kO,Bool.and_eq_true,decide_eq_true_eq]at hn
       omega
     · cases h
theorem one_tn {l t:List UInt8} {k:Int} (h:one l=some (k,t)) (h0:k=0):jH 0 t≤9223372036854775807:=by
 subst h0
 unfold one at h
 split at h
 · cases hk:jR (l.takeWhile zd) with
   | none=>rw[hk]at h;cases h
   | some j=>
     rw[hk]at h
     injection h with h
     injection h with h1 h2
     subst h1 h2
     exact kindT_fit hk
 · split at h
   · injection h with h
     injection h with h1 h2
     omega
   · cases h
theorem scan_tn:∀ (n:Nat) (l:List UInt8) (line:Nat) (ts:List Tok),l.length≤n→zN l line=(ts,none)→Tn ts
 | _,[],line,ts,_,h=>by
   rw[zN]at h
   injection h with h _
   subst h
   intro t ht
   obtain rfl:=List.mem_singleton.1 ht
   exact fun h=>(by cases h)
 | 0,c :: r,line,ts,h,_=>by simp at h
 | n+1,c :: r,line,ts,hl,h=>by
   simp only[List.length_cons]at hl
   rw[zN]at h
   split at h
   · exact scan_tn n r _ ts (by omega) h
   · split at h
     · exact scan_tn n r _ ts (by omega) h
     · split at h
       · have h1:=List.IsSuffix.length_le (List.dropWhile_suffix (l:=r) (fun d:UInt8=>d.toNat != 10))
         exact scan_tn n _ _ ts (by omega) h
       · split at h
         · cases h
         · rename_i k t hone
           have h1:(r.drop (t.length-1)).length=r.length-(t.length-1):=List.length_drop
           injection h with e1 e2
           have ih:=scan_tn n (r.drop (t.length-1)) line (zN (r.drop (t.length-1)) line).1 (by omega) (by rw[←e2])
           subst e1
           intro u hu
           rcases List.mem_cons.1 hu with rfl | hu
           · exact fun h0=>one_tn hone h0
           · exact ih u hu
theorem parsed_nums {l:List UInt8} {line:Nat} {ts r:List Tok} {p:Pr} (h:zN l line=(ts,none)) (hp:qA ts=.ok p r):prN p=true:=
 pPr_nums _ _ _ _ _ rfl (scan_tn _ _ _ _ (Nat.le_refl _) h) hp
theorem parse_again {l:List UInt8} {line:Nat} {ts r:List Tok} {p:Pr} (h:zN l line=(ts,none)) (hp:qA ts=.ok p r) (hok:prOK p=true) (ln:Nat):
 (prT p).length≤50 * l.length∧∃ us q,zN (prT p) ln=(us,none)∧qA us=.ok p q:=
 ⟨parsed_len h hp,parse_text hok (parsed_nums h hp) ln⟩
end Go.Proofs.YtndgkfkieogplaaDoor
