import Derived.Test.YtfghofifjnbicaaGreatDoorAiTyGlo
import Derived.Test.YtfghofifjnbicaaGreatDoorAiParLex
import Derived.Test.YtfghofifjnbicaaGreatDoorAiParBlk
import Derived.Test.YtfghofifjnbicaaGreatDoorAiTreeRefD
set_option linter.unusedSimpArgs false
set_option linter.unusedVariables false
set_option maxRecDepth 100000
/- A right program whose variables are named anew: valid, its names each its own, named anew again the same. No Go, no program. -/
namespace Go.Proofs.YtfghofifjnbicaaGreatDoor
open Lib (hid)
open Go.RowKit
theorem digs_len:∀ (k u:Nat),1≤k→u<10 ^ k→(Lib.decDigits u).length≤k
 | 0,u,h,_=>by omega
 | k+1,u,_,h=>by
   rw[Lib.decDigits];split
   · simp
   · rename_i h10
     rw[List.length_append,List.length_singleton]
     have hk:1≤k:=by
      rcases Nat.eq_zero_or_pos k with rfl | h0
      · simp at h;omega
      · exact h0
     have:=digs_len k (u / 10) hk (by rw[Nat.pow_succ]at h;omega);omega
theorem vN_ok {n:Nat} (h:n≤1000000000):yj (vN n)=true:=by
 have h1:=digs_len 10 n (by omega) (by omega);have h2:=digits_all n;unfold yj ji vN;have e:(118 :: Lib.decDigits n).toArray.toList=118 :: Lib.decDigits n:=by simp
 show ((!(118 :: Lib.decDigits n).toArray.toList.isEmpty) && decide ((118 :: Lib.decDigits n).toArray.toList.length≤20) && yR ((118 :: Lib.decDigits n).toArray.toList.headD 0) && (118 :: Lib.decDigits n).toArray.toList.all zx && !jy (118 :: Lib.decDigits n).toArray.toList)=true;rw[e]
 have h3:(118 :: Lib.decDigits n).all zx=true:=by
  rw[List.all_cons,Bool.and_eq_true];refine⟨by decide,?_⟩;rw[List.all_eq_true]at h2 ⊢;intro x hx;unfold zx;rw[h2 x hx,Bool.or_true]
 have h4:jy (118 :: Lib.decDigits n)=false:=by
  unfold jy words;simp
 rw[h3,h4];have h5:(118 :: Lib.decDigits n).length≤20:=by rw[List.length_cons];omega
 have h6:yR ((118 :: Lib.decDigits n).headD 0)=true:=(by decide:yR 118=true)
 rw[h6,decide_eq_true h5];rfl
def NmOK (l:jE):Prop:=∀ q ∈ l,yj q.2=true
theorem fndO_mem:∀ {l:jE} {s t:ByteArray},xJ l s=some t→∃ q ∈ l,q.1=s∧q.2=t
 | [],s,t,h=>by rw[xJ]at h;cases h
 | x :: r,s,t,h=>by
   rw[xJ]at h;cases hr:xJ r s with
   | some u=>
     rw[hr]at h;injection h with h;subst h;obtain⟨q,hq,e1,e2⟩:=fndO_mem hr;exact⟨q,List.mem_cons_of_mem _ hq,e1,e2⟩
   | none=>
     rw[hr]at h;by_cases e:x.1=s
     · rw[show (if x.1=s then some x.2 else Option.none)=some x.2 from if_pos e]at h
       injection h with h;exact⟨x,List.mem_cons_self ..,e,h⟩
     · rw[show (if x.1=s then some x.2 else Option.none)=Option.none from if_neg e]at h;cases h
theorem fnd_ok {l:jE} (hl:NmOK l) {s:ByteArray} (h:yj s=true):yj (fnd l s)=true:=by
 cases hf:xJ l s with
 | none=>unfold fnd;rw[hf];exact h
 | some t=>
   obtain⟨q,hq,_,e⟩:=fndO_mem hf;rw[vd hf,←e];exact hl q hq
theorem NmOK.let {l:jE} (h:NmOK l) {k:Int} {name:ByteArray} {n:Nat} (hn:jG k n≤1000000000):NmOK (jF k name l n):=by
 unfold jF;by_cases h1:k=1
 · rw[if_pos h1]
   unfold jG at hn;rw[if_pos h1]at hn;intro q hq;rcases List.mem_append.1 hq with hq | hq
   · exact h q hq
   · obtain rfl:=List.mem_singleton.1 hq
     exact vN_ok (by omega)
 · rw[if_neg h1];exact h
theorem nmS_ok {l:jE} (h:NmOK l) {k:Int} {name:ByteArray} {n:Nat} (hn:jG k n≤1000000000) (hs:yj name=true):yj (nmS k name l n)=true:=by
 unfold nmS;split
 · exact fnd_ok (h.let hn) hs
 · exact hs
mutual
theorem exOK_ren {l:jE} (h:NmOK l):∀ (e:Ex) (m:Nat),yU e m=true→yU (uv l e) m=true
 | .mk k op n name args,m,he=>by
   rw[jq]at he;simp only[Bool.and_eq_true]at he;obtain⟨⟨h1,h2⟩,h3⟩:=he;rw[uv,jq,uC,exsOK_ren h args _ h3,h1,Bool.true_and,Bool.and_true];by_cases hk:k=3
   · subst hk
     unfold zj at h2 ⊢;simp at h2 ⊢;obtain⟨⟨⟨h4,h5⟩,h6⟩,h7⟩:=h2;exact⟨⟨⟨fnd_ok h h4,h5⟩,h6⟩,h7⟩
   · rw[if_neg hk];exact h2
theorem exsOK_ren {l:jE} (h:NmOK l):∀ (r:List Ex) (m:Nat),zq r m=true→zq (qO l r) m=true
 | [],m,he=>by rw[qO];exact he
 | e :: r,m,he=>by
   rw[kp,Bool.and_eq_true]at he;rw[qO,kp,exOK_ren h e m he.1,exsOK_ren h r m he.2];rfl
end
theorem callB_ren (l:jE):∀ r:List Ex,yV (qO l r)=yV r
 | []=>by rw[qO]
 | .mk k op n name args :: r=>by rw[qO,uv];rfl
theorem formS_ren {l:jE} (h:NmOK l) {k ty:Int} {name:ByteArray} {a b c n:Nat} {d:Bool} (hn:jG k n≤1000000000) (hf:z8 k ty name a b c d=true):z8 k ty (nmS k name l n) a b c d=true:=by
 by_cases hk:k=1∨k=2
 · rcases hk with rfl | rfl
   · unfold z8 at *
     simp only[if_true,Bool.and_eq_true]at hf ⊢;obtain⟨⟨⟨⟨h1,h2⟩,h3⟩,h4⟩,h5⟩:=hf;exact⟨⟨⟨⟨h1,nmS_ok h hn h2⟩,h3⟩,h4⟩,h5⟩
   · unfold z8 at *
     rw[if_neg (by decide),if_pos rfl]at hf ⊢;simp only[Bool.and_eq_true]at hf ⊢;obtain⟨⟨⟨⟨h1,h2⟩,h3⟩,h4⟩,h5⟩:=hf;exact⟨⟨⟨⟨h1,nmS_ok h hn h2⟩,h3⟩,h4⟩,h5⟩
 · unfold nmS
   rw[if_neg hk];exact hf
mutual
theorem stOK_ren:∀ (s:St) (all:jE) (n m:Nat),uc s m=true→NmOK all→(je s all n).2≤1000000000→uc (je s all n).1 m=true
 | .mk k ty name args thn els,all,n,m,hs,hN,hb=>by
   rw[jM]at hs;simp only[Bool.and_eq_true]at hs;obtain⟨⟨⟨⟨h1,h2⟩,h3⟩,h4⟩,h5⟩:=hs;rw[je]at hb ⊢;have g1:=xq thn (jF k name all n) (jG k n);have g2:=xq els (jF k name all n) (z6 thn (jF k name all n) (jG k n)).2;have g3:jG k n≤1000000000:=Nat.le_trans g1 (Nat.le_trans g2 hb);have hN2:=hN.let (name:=name) g3;rw[jM];rw[show (if k=1∨k=2 then fnd (jF k name all n) name else name)=nmS k name all n from rfl];rw[uC,renSs_len,renSs_len,callB_ren,h1,formS_ren hN g3 h2,exsOK_ren hN args _ h3,uP thn _ _ _ h4 hN2 (Nat.le_trans g2 hb),uP els _ _ _ h5 hN2 hb];rfl
theorem uP:∀ (l:List St) (all:jE) (n m:Nat),z9 l m=true→NmOK all→(z6 l all n).2≤1000000000→z9 (z6 l all n).1 m=true
 | [],all,n,m,hs,hN,hb=>by rw[z6,yY]
 | .mk k ty name args thn els :: r,all,n,m,hs,hN,hb=>by
   rw[kL,Bool.and_eq_true]at hs;rw[z6]at hb ⊢;have g1:=xq r (Go.Proofs.YtfghofifjnbicaaGreatDoor.u6 (.mk k ty name args thn els) all n) (je (.mk k ty name args thn els) all n).2;have g2:=renS_le (.mk k ty name args thn els) all n;have g3:jG k n≤1000000000:=Nat.le_trans g2 (Nat.le_trans g1 hb);rw[kL,stOK_ren _ _ _ _ hs.1 hN (Nat.le_trans g1 hb),uP r (Go.Proofs.YtfghofifjnbicaaGreatDoor.u6 (.mk k ty name args thn els) all n) _ _ hs.2 (show NmOK (jF k name all n) from hN.let g3) hb];rfl
end
mutual
theorem renS_cnt:∀ (s:St) (all:jE) (n:Nat),(je s all n).2≤n+jg s
 | .mk k ty name args thn els,all,n=>by
   have h1:=uQ thn (jF k name all n) (jG k n);have h2:=uQ els (jF k name all n) (z6 thn (jF k name all n) (jG k n)).2;have h3:jG k n≤n+1:=by unfold jG;split <;> omega
   rw[je,jg];show (z6 els (jF k name all n) (z6 thn (jF k name all n) (jG k n)).2).2≤_;omega
theorem uQ:∀ (l:List St) (all:jE) (n:Nat),(z6 l all n).2≤n+cntSs l
 | [],all,n=>by rw[z6,cntSs];exact Nat.le_refl _
 | s :: r,all,n=>by
   have h1:=renS_cnt s all n;have h2:=uQ r (Go.Proofs.YtfghofifjnbicaaGreatDoor.u6 s all n) (je s all n).2;rw[z6,cntSs];show (z6 r (Go.Proofs.YtfghofifjnbicaaGreatDoor.u6 s all n) (je s all n).2).2≤_;omega
end
theorem parN_ok {l:List Pa} (h:l.length≤8):NmOK (parN l 0):=fun q hq=>by
 have:q.2 ∈ (parN l 0).map (·.2):=List.mem_map.2 ⟨q,hq,rfl⟩;rw[yt]at this;obtain⟨i,hi,e⟩:=List.mem_map.1 this;have:=List.mem_range'.1 hi;rw[←e];exact vN_ok (by omega)
theorem fuOK_ren {f:Fu} (h:kE f=true) (hc:f.params.length+cntSs f.body≤1000000000):kE (kM f)=true:=by
 unfold kE at *;simp only[Bool.and_eq_true,decide_eq_true_eq]at h ⊢;obtain⟨⟨⟨⟨h1,h2⟩,h3⟩,h4⟩,h5⟩:=h;refine⟨⟨⟨⟨h1,h2⟩,?_⟩,?_⟩,?_⟩
 · show (renPs f.params 0).length≤8
   rw[jr];exact h3
 · show (renPs f.params 0).all xj=true
   rw[List.all_eq_true]at h4 ⊢;intro x hx
   have key:∀ (l:List Pa) (n:Nat),n+l.length≤8→(∀ y ∈ l,xj y=true)→∀ x ∈ renPs l n,xj x=true:=by
    intro l
    induction l with
    | nil=>intro n _ _ x hx;cases hx
    | cons y r ih=>
      intro n hn hy x hx;rw[List.length_cons]at hn;rw[renPs]at hx;rcases List.mem_cons.1 hx with rfl | hx
      · have:=hy y (List.mem_cons_self ..)
        unfold xj at this ⊢;rw[Bool.and_eq_true]at this;rw[vN_ok (by omega),this.2];rfl
      · exact ih (n+1) (by omega) (fun z hz=>hy z (List.mem_cons_of_mem _ hz)) x hx
   exact key f.params 0 (by omega) h4 x hx
 · exact uP f.body _ _ _ h5 (parN_ok h3) (Nat.le_trans (uQ f.body _ _) hc)
theorem prOK_ren {p:Pr} (h:prOK p=true) (hc:∀ f ∈ p.funcs,f.params.length+cntSs f.body≤1000000000):prOK (qn p)=true:=by
 unfold prOK at *;rw[Bool.and_eq_true]at h ⊢;refine⟨h.1,?_⟩;show (p.funcs.map kM).all kE=true;rw[List.all_map,List.all_eq_true];intro f hf;exact fuOK_ren (List.all_eq_true.1 h.2 f hf) (hc f hf)
theorem dupA_ren (p:Pr):∀ l:List Ar,xQ (qn p) l=xQ p l
 | []=>rfl
 | a :: r=>by
   rw[xQ,xQ,dupA_ren p r];show (_ || (zy (p.funcs.map kM) a.name).isSome || _)=_;rw[vc]
theorem dupF_ren:∀ l:List Fu,xV (l.map kM)=xV l
 | []=>rfl
 | f :: r=>by
   rw[List.map_cons,xV,xV,dupF_ren r,vc];rfl
theorem mainB_ren (p:Pr):kB (qn p)=kB p:=by
 unfold kB;rw[funT_ren];cases kd p ⟨#[109,97,105,110]⟩ with
 | none=>rfl
 | some f=>
   show (decide (f.type=1) && decide ((renPs f.params 0).length=0))=_;rw[jr]
theorem chkFs_ren {p:Pr}:∀ {l:List Fu} {i:Nat},(xH p l i).1=0→xH (qn p) (l.map kM) i=(0,0,0)
 | [],i,_=>rfl
 | f :: r,i,h=>by
   rw[xH]at h;by_cases h1:(kg p f).1=0
   · rw[if_neg (by simpa using h1)]at h
     rw[List.map_cons,xH,chkF_ren h1,if_neg (by simpa using h1)];exact chkFs_ren h
   · rw[if_pos (by simpa using h1)]at h
     exact absurd h h1
theorem chkP_ren {p:Pr} (hc:∀ f ∈ p.funcs,f.params.length+cntSs f.body≤1000000000) (h:(vO p).1=0):vO (qn p)=(0,0,0):=by
 unfold vO at *;by_cases h1:prOK p=false
 · rw[if_pos h1]at h;exact absurd h (by decide)
 rw[if_neg h1]at h;have h1':prOK p=true:=by simpa using h1
 rw[if_neg (by rw[prOK_ren h1' hc];decide)];by_cases h2:(xQ p p.arrays || xV p.funcs || !kB p)=true
 · rw[if_pos h2]at h;exact absurd h (by decide)
 rw[if_neg h2]at h
 have h3:(xQ (qn p) (qn p).arrays || xV (qn p).funcs || !kB (qn p))=(xQ p p.arrays || xV p.funcs || !kB p):=by
  rw[mainB_ren];show (xQ (qn p) p.arrays || xV (p.funcs.map kM) || _)=_;rw[dupA_ren,dupF_ren]
 rw[h3,if_neg h2];exact chkFs_ren h
theorem chkP_ok {p:Pr} (h:(vO p).1=0):prOK p=true:=by
 unfold vO at h;by_cases h1:prOK p=false
 · rw[if_pos h1]at h;exact absurd h (by decide)
 · simpa using h1
def Idn (l:jE):Prop:=∀ q ∈ l,q.1=q.2
theorem fnd_idn {l:jE} (h:Idn l) (s:ByteArray):fnd l s=s:=by
 cases hf:xJ l s with
 | none=>unfold fnd;rw[hf];rfl
 | some t=>
   obtain⟨q,hq,e1,e2⟩:=fndO_mem hf;rw[vd hf,←e1,←e2,h q hq]
mutual
theorem renE_idn {l:jE} (h:Idn l):∀ e:Ex,uv l e=e
 | .mk k op n name args=>by rw[uv,fnd_idn h,ite_self,renEs_idn h args]
theorem renEs_idn {l:jE} (h:Idn l):∀ r:List Ex,qO l r=r
 | []=>by rw[qO]
 | e :: r=>by rw[qO,renE_idn h e,renEs_idn h r]
end
theorem letN_idn {k:Int} {name:ByteArray} {l all:jE} {n:Nat} (h:Idn l):Idn (jF k (nmS k name all n) l n):=by
 unfold jF;by_cases h1:k=1
 · subst h1
   rw[if_pos rfl,nmS_let];intro q hq;rcases List.mem_append.1 hq with hq | hq
   · exact h q hq
   · obtain rfl:=List.mem_singleton.1 hq
     rfl
 · rw[if_neg h1];exact h
mutual
theorem renS_idem:∀ (s:St) (all l:jE) (n:Nat),Idn l→je (je s all n).1 l n=je s all n
 | .mk k ty name args thn els,all,l,n,h=>by
   have hL:=letN_idn (k:=k) (name:=name) (all:=all) (n:=n) h;rw[je];rw[show (if k=1∨k=2 then fnd (jF k name all n) name else name)=nmS k name all n from rfl];rw[je,fnd_idn hL,ite_self,renEs_idn h,yx thn _ _ _ hL,yx els _ _ _ hL]
theorem yx:∀ (r:List St) (all l:jE) (n:Nat),Idn l→z6 (z6 r all n).1 l n=z6 r all n
 | [],all,l,n,h=>by rw[z6,z6]
 | .mk k ty name args thn els :: r,all,l,n,h=>by
   have hL:=letN_idn (k:=k) (name:=name) (all:=all) (n:=n) h;have e:Go.Proofs.YtfghofifjnbicaaGreatDoor.u6 (je (.mk k ty name args thn els) all n).1 l n=jF k (nmS k name all n) l n:=by rw[je];rfl
   rw[z6,z6,renS_idem _ _ _ _ h,e,yx r _ _ _ hL]
end
theorem renPs_idem:∀ (l:List Pa) (n:Nat),renPs (renPs l n) n=renPs l n
 | [],_=>rfl
 | x :: r,n=>by rw[renPs,renPs,renPs_idem r]
theorem parN_idn:∀ (l:List Pa) (n:Nat),Idn (parN (renPs l n) n)
 | [],_,q,hq=>by cases hq
 | x :: r,n,q,hq=>by
   rw[renPs,parN]at hq;rcases List.mem_cons.1 hq with rfl | hq
   · rfl
   · exact parN_idn r (n+1) q hq
theorem renF_idem (f:Fu):kM (kM f)=kM f:=by
 unfold kM;dsimp only;rw[renPs_idem,jr,yx _ _ _ _ (parN_idn f.params 0)]
theorem renPr_idem (p:Pr):qn (qn p)=qn p:=by
 unfold qn;dsimp only;rw[List.map_map];congr 1;exact List.map_congr_left fun f _=>renF_idem f
mutual
def letsS:St→List ByteArray
 | .mk k _ name _ thn els=>(if k=1 then [name] else [])++z7 thn++z7 els
def z7:List St→List ByteArray
 | []=>[]
 | s :: r=>letsS s++z7 r
end
theorem ye (n d e:Nat):(List.range' n d).map vN++(List.range' (n+d) e).map vN=(List.range' n (d+e)).map vN:=by
 rw[←List.map_append,List.range'_append_1]
mutual
theorem letsS_ren:∀ (s:St) (all:jE) (n:Nat),∃ d,(je s all n).2=n+d∧letsS (je s all n).1=(List.range' n d).map vN
 | .mk k ty name args thn els,all,n=>by
   obtain⟨d1,e1,g1⟩:=yy thn (jF k name all n) (jG k n);obtain⟨d2,e2,g2⟩:=yy els (jF k name all n) (z6 thn (jF k name all n) (jG k n)).2;rw[je,letsS];rw[show (if k=1∨k=2 then fnd (jF k name all n) name else name)=nmS k name all n from rfl];by_cases h1:k=1
   · subst h1
     refine⟨1+d1+d2,?_,?_⟩
     · show (z6 els _ _).2=_
       rw[e2,e1];unfold jG;rw[if_pos rfl];omega
     · rw[if_pos rfl,nmS_let,g1,g2,e1]
       have hc:jG 1 n=n+1:=by unfold jG;rw[if_pos rfl]
       rw[hc];rw[show [vN n]=(List.range' n 1).map vN from rfl,ye,show n+1+d1=n+(1+d1) by omega,ye]
   · refine⟨d1+d2,?_,?_⟩
     · show (z6 els _ _).2=_
       rw[e2,e1];unfold jG;rw[if_neg h1];omega
     · have hc:jG k n=n:=by unfold jG;rw[if_neg h1]
       rw[if_neg h1,List.nil_append,g1,g2,e1,hc,ye]
theorem yy:∀ (l:List St) (all:jE) (n:Nat),∃ d,(z6 l all n).2=n+d∧z7 (z6 l all n).1=(List.range' n d).map vN
 | [],all,n=>⟨0,by rw[z6];rfl,by rw[z6,z7];rfl⟩
 | s :: r,all,n=>by
   obtain⟨d1,e1,g1⟩:=letsS_ren s all n;obtain⟨d2,e2,g2⟩:=yy r (Go.Proofs.YtfghofifjnbicaaGreatDoor.u6 s all n) (je s all n).2;refine⟨d1+d2,?_,?_⟩
   · rw[z6]
     show (z6 r _ _).2=_;rw[e2,e1];omega
   · rw[z6,z7,g1,g2,e1,ye]
end
def allN (f:Fu):List ByteArray:=f.params.map (·.name)++z7 f.body
theorem allN_ren (f:Fu):(allN (kM f)).Nodup:=by
 obtain⟨d,e,g⟩:=yy f.body (parN f.params 0) f.params.length
 have h:allN (kM f)=(List.range' 0 (f.params.length+d)).map vN:=by
  show (renPs f.params 0).map (·.name)++z7 (z6 f.body (parN f.params 0) f.params.length).1=_;rw[vj,g];have:=ye 0 f.params.length d;rw[Nat.zero_add]at this;exact this
 rw[h];exact vN_nodup _ _
theorem formE_len {k op n:Int} {s:ByteArray} {len:Nat} (h:zj k op n s len=true):len≤8:=by
 unfold zj at h
 repeat' split at h
 all_goals (simp at h;try omega)
def kQ:Knd (ByteArray × ByteArray) where
 T:=71
 n:=2
 cs q:=[.string q.1,.string q.2]
 inn _ _ _:=True
 len _:=rfl
 mono _ _ h:=h
end Go.Proofs.YtfghofifjnbicaaGreatDoor
