import Derived.Test.YtndgkfkieogplaaDoorAgParBlk
import Derived.Test.YtndgkfkieogplaaDoorAgPrsAgM
import Derived.Test.YtndgkfkieogplaaDoorAgTyOr
set_option linter.unusedSimpArgs false
set_option linter.unusedVariables false
set_option maxRecDepth 100000
/- A row of statements, by its cells. -/
namespace Go.Proofs.YtndgkfkieogplaaDoor
open Lib (hid)
open Go.RowKit
theorem rdSs_parts {N:Nat} {W:World} {g:Nat}:∀ (l:List St) (o:Nat),kU N W l g o→∃ ps:List StP4,ps.map (·.s)=l∧(∀ j u,(xG ps)[j]? =some u→W.cell? ⟨g,o+j,none⟩=some u)∧∀ p ∈ ps,stIn N W p
 | [],o,_=>⟨[],rfl,fun j u h=>by simp[xG]at h,fun p h=>by cases h⟩
 | .mk k t nm a b c :: r,o,h=>by
   rw[kU,RdS]at h
   obtain⟨⟨h0,h1,h2,⟨v3,h3,s3⟩,⟨v4,h4,s4⟩,⟨v5,h5,s5⟩⟩,hr⟩:=h
   obtain⟨ps,e1,e2,e3⟩:=rdSs_parts r (o+6) hr
   have e:xG (⟨.mk k t nm a b c,v3,v4,v5⟩ :: ps)=.int .i64 k :: .int .i64 t :: .string nm :: v3 :: v4 :: v5 :: xG ps:=by simp[xG,stC]
   refine⟨⟨.mk k t nm a b c,v3,v4,v5⟩ :: ps,by rw[List.map_cons,e1],fun j u hj=>?_,fun p hp=>?_⟩
   · rw[e]at hj
     match j,hj with
     | 0,hj=>simp at hj;subst hj;exact h0.2
     | 1,hj=>simp at hj;subst hj;exact h1.2
     | 2,hj=>simp at hj;subst hj;exact h2.2
     | 3,hj=>simp at hj;subst hj;exact h3.2
     | 4,hj=>simp at hj;subst hj;exact h4.2
     | 5,hj=>simp at hj;subst hj;exact h5.2
     | j+6,hj=>
       have:=e2 j u (by simpa using hj)
       rwa [show o+6+j=o+(j+6) by omega]at this
   · rcases List.mem_cons.1 hp with rfl | hp
     · exact⟨s3,s4,s5⟩
     · exact e3 p hp
theorem stCs_len (ps:List StP4):(xG ps).length=ps.length * 6:=by
 induction ps with
 | nil=>rfl
 | cons p r ih=>
   have e:xG (p :: r)=stC p++xG r:=by simp[xG]
   rw[e,List.length_append,stC_len,ih,List.length_cons]
   omega
theorem slS_parts {B:Nat} {w:World} {A:Option Addr} {n c:Nat} {l:List St} (h:SlS B w (.slice A n c) l):n=l.length∧n≤281474976710656∧∃ ps:List StP4,ps.map (·.s)=l∧(∀ ad,A=some ad→∀ j u,(xG ps)[j]? =some u→w.cell? (ad.add j)=some u)∧∀ p ∈ ps,stIn B w p:=by
 obtain⟨A',c',hv,hn,hF⟩:=h
 injection hv with e1 e2 e3
 subst e1 e2 e3
 refine⟨rfl,hn,?_⟩
 by_cases h0:0<l.length
 · obtain⟨g,o,rfl,hr⟩:=hF h0
   obtain⟨ps,e4,e5,e6⟩:=rdSs_parts l o hr
   refine⟨ps,e4,fun ad had j u hj=>?_,e6⟩
   injection had with had
   subst had
   have hadd:(⟨g,o,none⟩:Addr).add j=⟨g,o+j,none⟩:=by unfold Addr.add;split <;> simp_all
   rw[hadd]
   exact e5 j u hj
 · obtain rfl:l=[]:=List.eq_nil_of_length_eq_zero (by omega)
   exact⟨[],rfl,fun ad _ j u hj=>by simp[xG]at hj,fun p hp=>by cases hp⟩
theorem stCs_one {N:Nat} {w:World}:∀ {ps:List StP4},(∀ p ∈ ps,stIn N w p)→∀ u ∈ xG ps,u.oneCell'=true
 | [],_,u,hu=>by simp[xG]at hu
 | p :: r,h,u,hu=>by
   have e:xG (p :: r)=stC p++xG r:=by simp[xG]
   rw[e]at hu
   rcases List.mem_append.1 hu with hu | hu
   · have hp:=h p (List.mem_cons_self ..)
     obtain⟨⟨k,t,nm,a,b,c⟩,v3,v4,v5⟩:=p
     obtain⟨A3,c3,rfl,_⟩:=kf.form hp.1
     obtain⟨A4,c4,rfl,_⟩:=SlS.form hp.2.1
     obtain⟨A5,c5,rfl,_⟩:=SlS.form hp.2.2
     simp[stC]at hu
     rcases hu with rfl | rfl | rfl | rfl | rfl | rfl <;> rfl
   · exact stCs_one (fun q hq=>h q (List.mem_cons_of_mem _ hq)) u hu
theorem own_stmts {base B:Nat} {w:World} {v:Value} {ps:List StP4} {n:Nat} (h:w.ownsRow base 50 6 v n (xG ps)) (hn:n=ps.length) (hl:n≤281474976710656) (hB:∀ k,v.ownBlock=some k→k<B) (hp:∀ p ∈ ps,stIn B w p):SlS B w v (ps.map (·.s)):=by
 rcases h.2 with⟨rfl,h0⟩ | ⟨g,cap,cur,rfl,h1,h2,h3,h4,h5,h6⟩
 · have:ps=[]:=List.eq_nil_of_length_eq_zero (by omega)
   subst this
   exact slS_nil _ _
 · refine⟨_,cap,by rw[List.length_map,←hn],by rw[List.length_map,←hn];exact hl,fun _=>⟨g,0,rfl,?_⟩⟩
   refine rdSs_of ps 0 (fun j u hj=>⟨hB g rfl,?_⟩) hp
   have h7:=h.cells (g:=g) rfl j u hj
   have hadd:(⟨g,0,none⟩:Addr).add j=⟨g,0+j,none⟩:=by unfold Addr.add;split <;> simp_all
   first
   | exact h7
   | (rw[hadd]at h7;exact h7)
   | (simp at h7 ⊢;rw[hadd]at h7;simpa using h7)
theorem nodeY_ne (p:Pr) (vars:List Pa) (k op:Int) (s:ByteArray) (l:List Int):(qH p vars k op s l).2≠52:=by
 unfold qH
 cases kn p s <;> (repeat' split) <;> simp_all
mutual
theorem typE_ne (p:Pr) (vars:List Pa):∀ e:Ex,(zq p vars e).2≠52
 | .mk k op n name args=>by
   rw[zq]
   split
   · decide
   split
   · decide
   cases h:zV p vars args with
   | inl x=>exact typEs_ne p vars args x h
   | inr l=>exact nodeY_ne p vars k op name l
theorem typEs_ne (p:Pr) (vars:List Pa):∀ (l:List Ex) (x:Int),zV p vars l=.inl x→x≠52
 | [],x,h=>by rw[zV]at h;cases h
 | e :: r,x,h=>by
   rw[zV]at h
   split at h
   · injection h with h
     rw[←h]
     exact typE_ne p vars e
   · cases h2:zV p vars r with
     | inl y=>
       rw[h2]at h
       injection h with h
       rw[←h]
       exact typEs_ne p vars r y h2
     | inr l=>rw[h2]at h;cases h
end
theorem uE (p:Pr) (vars:List Pa) (e:Ex) (t:Int):qb p vars e t≠52:=by
 unfold qb
 split
 · split <;> decide
 · exact typE_ne p vars e
theorem ownS_ne (p:Pr) (ft k ty:Int) (name:ByteArray) (args:List Ex) (vars:List Pa) (frm:Nat) (loop:Bool):qm p ft k ty name args vars frm loop≠52:=by
 unfold qm
 split
 · split
   · split <;> decide
   · apply uE
 split
 · cases zi vars name with
   | none=>exact(by decide:(50 :Int)≠52)
   | some t=>exact uE p vars _ t
 split
 · split
   · split <;> apply uE
   · decide
 split
 · apply uE
 split
 · apply uE
 split
 · apply uE
 split
 · apply typE_ne
 split <;> decide
mutual
theorem chkS_ne (p:Pr) (ft:Int):∀ (s:St) (vars:List Pa) (frm:Nat) (loop:Bool) (n:Nat),(uf p ft s vars frm loop n).1≠52
 | .mk k ty name args thn els,vars,frm,loop,n=>by
   rw[uf]
   split
   · exact ownS_ne p ft k ty name args vars frm loop
   split
   · apply chkSs_ne p ft thn
   · apply chkSs_ne p ft els
theorem chkSs_ne (p:Pr) (ft:Int):∀ (l:List St) (vars:List Pa) (frm:Nat) (loop:Bool) (n:Nat),(zU p ft l vars frm loop n).1≠52
 | [],_,_,_,n=>by rw[zU];exact(by decide:(0 :Int)≠52)
 | s :: r,vars,frm,loop,n=>by
   rw[zU]
   split
   · apply chkS_ne p ft s
   · apply chkSs_ne p ft r
end
theorem more_two {b:List St} (h:prOK (ji b)=true) {r1 t1:Int} {r2 r3 t2 t3:Nat} (hR:kC (ji b)=(r1,r2,r3)) (hS:kC (ji (b++[x6]))=(t1,t2,t3)):
 ((r1=0∨r1=52)∧t1=0)∨(r1≠0∧r1≠52∧t1=r1∧t2=r2∧t3=r3):=by
 obtain⟨_,h2,h3⟩:=more_law b h
 rw[hR,hS]at h3
 rw[hS]at h2
 by_cases hc:(zU (ji b) 1 b (kE []).params 2 false 0).1=0
 · refine .inl ⟨?_,h2 hc⟩
   have e:=chk_a b h
   have e2:=chkF_f (ji b) b
   rw[if_neg (by simpa using hc)]at e2
   rw[e2,hR]at e
   by_cases hE:qr b=true
   · simp[hE]at e
     exact .inl e.1
   · simp[hE]at e
     exact .inr e.1
 · obtain⟨e1,e2⟩:=h3 hc
   injection e1 with e3 e4
   injection e4 with e5 e6
   have e7:=chkSs_ne (ji b) 1 b (kE []).params 2 false 0
   simp only at e2
   exact .inr ⟨by rw[e2];exact hc,by rw[e2];exact e7,e3,e5,e6⟩
theorem cntSs_app:∀ a b:List St,cntSs (a++b)=cntSs a+cntSs b
 | [],b=>by rw[List.nil_append,cntSs,Nat.zero_add]
 | s :: r,b=>by rw[List.cons_append,cntSs,cntSs,cntSs_app r b,Nat.add_assoc]
theorem small_more {s:ByteArray} {b:List St} {ln:Nat} (hs:s.size≤500) (h:kS s=(ji b,0,ln)):Small (ji (b++[x6])):=by
 have hS:=y8 hs h
 obtain⟨h1,h2,_⟩:=docP_told h hs
 have hmem:kE b ∈ (ji b).funcs:=by simp[ji]
 have hc:(kE b).params.length+cntSs b≤100000000:=by
  have hpr:(prT (ji b)).length=(((ji b).arrays.map arT).flatten).length+(((ji b).funcs.map fuT).flatten).length:=by unfold prT;rw[List.length_append]
  have h3:=flat_mem (f:=fuT) hmem
  rw[fu_len]at h3
  have h4:=px_cnt (kE b).params
  have h5:=uB (kE b).body 100 1 (kl h1 hmem).1
  have h6:(kE b).body=b:=rfl
  rw[h6]at h5 h3
  omega
 refine⟨ok_more b h1,⟨hS.sz.1,fun f hf=>?_⟩,hS.n1,hS.n2,fun f hf=>?_⟩
 · have hf':f=kE (b++[x6])∨f=xv:=by simpa[ji] using hf
   rcases hf' with rfl | rfl
   · exact hS.sz.2 (kE b) hmem
   · exact hS.sz.2 xv (by simp[ji])
 · have hf':f=kE (b++[x6])∨f=xv:=by simpa[ji] using hf
   rcases hf' with rfl | rfl
   · show (kE b).params.length+cntSs (b++[x6])≤1000000000
     rw[cntSs_app,show cntSs [x6]=1 by simp[x6,cntSs,cntS]]
     omega
   · exact hS.cn xv (by simp[ji])
theorem body_more {b:List St} {s:ByteArray} {ln:Nat} (hr:BodyR s) (h:kS s=(ji b,0,ln)):Small (ji (b++[x6])):=small_more hr.1 h
theorem cnt_ge:∀ l:List St,l.length≤cntSs l
 | []=>Nat.zero_le _
 | .mk k t n a b c :: r=>by
   have:=cnt_ge r
   rw[cntSs,cntS,List.length_cons]
   omega
@[go_sem] theorem buildFu (s:ByteArray) (t:Int) (A A':Option Addr) (n c n' c':Nat) (w:World):(Instr.build 39 #[(0,.string s),(1,.int .i64 t),(2,.slice A n c),(3,.slice A' n' c')]).run Tryd.prog w=.ok (.agg #[.string s,.int .i64 t,.slice A n c,.slice A' n' c']) w:=run_build w 39 _ _ (by kernel_rfl)
set_option maxHeartbeats 4000000 in
theorem lmore_any (B:Nat) (v:Value) (ends:Bool) (w:World) (ht:TreeTab B w) (hB:B≤w.heap.size) (hv:xx w v):Calls Tryd.prog 6 #[v,.bool ends] w fun e w'=>e=.returned (.bool true)∧Below w.heap.size w w':=by
 have HT:=hid ht
 have HV:=hid hv
 clear ht hv
 go_enter Tryd.func6,Tryd.ntmps6
 go_upto_region 5 with(first
  | (go_at_call 10;(with_reducible refine(jw B w HT.out hB).mono ?_);rintro e w0 ⟨rfl,hb⟩
     have HB0:=hid hb
     have HT0:=hid (HT.out.below (hb.mono hB))
     have HV0:=hid (HV.out.below hb)
     have hz0:w.heap.size≤w0.heap.size:=hb.size
     clear hb)
  | (go_at_call 9;(with_reducible refine(lbody_any v ends w0 HV0.out).mono ?_);rintro e w1 ⟨r,rfl,hr,hb⟩
     obtain⟨p,e1,ln,hd⟩:∃ p e ln,kS r=(p,e,ln):=⟨_,_,_,rfl⟩
     have HD:=hid hd
     have HR:=hid hr
     have HB1:=hid (HB0.out.trans (hb.mono hz0))
     have HT1:=hid (HT0.out.below (hb.mono (by omega)))
     have hz1:w0.heap.size≤w1.heap.size:=hb.size
     clear hd hr hb)
  | (go_at_call 8;(with_reducible refine(xu r HT1.out (by omega) HD.out).mono ?_);rintro e w2 ⟨A0,c0,A1,c1,rfl,hb,hg⟩
     have hz2:w1.heap.size≤w2.heap.size:=hb.size
     have hb2:Below w2.heap.size w2 (w2.alloc (ze A0 p.arrays.length c0 A1 p.funcs.length c1)):=(Below.refl _ _).alloc (Nat.le_refl _) _
     have HG2:=hid (hg.below hb2)
     have HX2:=hid (heap_alloc_new w2 (ze A0 p.arrays.length c0 A1 p.funcs.length c1))
     have HB2:=hid ((HB1.out.trans (hb.mono (by omega))).trans (hb2.mono (by omega)))
     clear hb hg hb2))
 by_cases he:e1=0
 · subst he
   obtain⟨hsm,_,h2⟩:=body_doc HR.out HD.out
   by_cases hl:p.funcs.length=2
   · obtain⟨b,rfl⟩:=h2 hl
     have HSM:=hid hsm
     clear h2 hsm
     obtain⟨g,o,a0,b0,rfl,hg,y0,y1,y2,y3,y4,y5⟩:=HG2.out.hf.cells (show (ji b).funcs[0]? =some (kE b) from rfl)
     obtain⟨g',o',a1,b1,he',_,z0,z1,z2,z3,z4,z5⟩:=HG2.out.hf.cells (show (ji b).funcs[1]? =some xv from rfl)
     obtain⟨rfl,rfl⟩:g=g'∧o=o':=by simpa using he'
     have HPF:=hid (And.intro y4 (And.intro y5 (And.intro z4 z5)))
     have hgs:g<w2.heap.size:=hg
     have hll:(ji b).funcs.length=2:=hl
     have haa:(ji b).arrays.length=1:=rfl
     rw[hll,haa]at HX2 HG2
     simp only[hll,haa]
     clear y4 y5 z4 z5 he' hl
     obtain⟨⟨r1,r2,r3⟩,hR⟩:∃ R,kC (ji b)=R:=⟨_,rfl⟩
     have HRR:=hid hR
     clear hR
     obtain⟨⟨p0,p1⟩,pz⟩:=zE HX2.out
     go_upto_region 9 with(first
      | (go_at_call 11;(with_reducible refine(HG2.out.chk3 HSM.out HRR.out).mono ?_);rintro e w3 ⟨rfl,hb⟩
         have hz3:w2.heap.size+1≤w3.heap.size:=by have:=hb.size;simpa using this
         have hb3:Below w3.heap.size w3 (w3.alloc (qQ r2 (W64 r3))):=(Below.refl _ _).alloc (Nat.le_refl _) _
         have hx3:=heap_alloc_new w3 (qQ r2 (W64 r3))
         have hy3:=(hb3.block w2.heap.size (by omega)).trans ((hb.block w2.heap.size (by simp)).trans HX2.out)
         obtain⟨⟨k0,k1⟩,kz⟩:=zE hy3
         have HG3:=hid ((HG2.out.below hb).below hb3)
         have HX3:=hid hx3
         have HB3:=hid (HB2.out.trans ((hb.trans (hb3.mono (by simp;omega))).mono (by simp;omega)))
         have HC3:=hid (show Below w2.heap.size (w2.alloc (ze A0 1 c0 (some ⟨g,o,none⟩) 2 c1)) (w3.alloc (qQ r2 (W64 r3))) from(hb.mono (by simp)).trans (hb3.mono (by omega)))
         have HY3:=hid hy3
         clear hb hb3 hx3 hy3))
     have hb8:Below (w3.heap.size+1) (w3.alloc (qQ r2 (W64 r3))) (((w3.alloc (qQ r2 (W64 r3))).alloc (.cells #[.int .i64 1,.int .i64 0,.int .i64 1,.string ⟨#[]⟩,.slice none 0 0] 48)).alloc (.cells #[.int .i64 8,.int .i64 0,.string ⟨#[]⟩,.slice (some ⟨w3.heap.size+1,0,none⟩) 1 1,.slice none 0 0,.slice none 0 0] 50)):=((Below.refl _ _).alloc (by simp) _).alloc (by simp) _
     have hz8:(((w3.alloc (qQ r2 (W64 r3))).alloc (.cells #[.int .i64 1,.int .i64 0,.int .i64 1,.string ⟨#[]⟩,.slice none 0 0] 48)).alloc (.cells #[.int .i64 8,.int .i64 0,.string ⟨#[]⟩,.slice (some ⟨w3.heap.size+1,0,none⟩) 1 1,.slice none 0 0,.slice none 0 0] 50)).heap.size=w3.heap.size+1+1+1:=by simp
     have hx8:(((w3.alloc (qQ r2 (W64 r3))).alloc (.cells #[.int .i64 1,.int .i64 0,.int .i64 1,.string ⟨#[]⟩,.slice none 0 0] 48)).alloc (.cells #[.int .i64 8,.int .i64 0,.string ⟨#[]⟩,.slice (some ⟨w3.heap.size+1,0,none⟩) 1 1,.slice none 0 0,.slice none 0 0] 50)).heap[w3.heap.size]? =some (qQ r2 (W64 r3)):=(hb8.block w3.heap.size (by omega)).trans HX3.out
     have he8:(((w3.alloc (qQ r2 (W64 r3))).alloc (.cells #[.int .i64 1,.int .i64 0,.int .i64 1,.string ⟨#[]⟩,.slice none 0 0] 48)).alloc (.cells #[.int .i64 8,.int .i64 0,.string ⟨#[]⟩,.slice (some ⟨w3.heap.size+1,0,none⟩) 1 1,.slice none 0 0,.slice none 0 0] 50)).heap[w3.heap.size+1]? =some (.cells #[.int .i64 1,.int .i64 0,.int .i64 1,.string ⟨#[]⟩,.slice none 0 0] 48):=(Below.heap_alloc _ _ _ (by simp)).trans (by simpa using heap_alloc_new (w3.alloc (qQ r2 (W64 r3))) (.cells #[.int .i64 1,.int .i64 0,.int .i64 1,.string ⟨#[]⟩,.slice none 0 0] 48))
     have ho8:(((w3.alloc (qQ r2 (W64 r3))).alloc (.cells #[.int .i64 1,.int .i64 0,.int .i64 1,.string ⟨#[]⟩,.slice none 0 0] 48)).alloc (.cells #[.int .i64 8,.int .i64 0,.string ⟨#[]⟩,.slice (some ⟨w3.heap.size+1,0,none⟩) 1 1,.slice none 0 0,.slice none 0 0] 50)).heap[w3.heap.size+1+1]? =some (.cells #[.int .i64 8,.int .i64 0,.string ⟨#[]⟩,.slice (some ⟨w3.heap.size+1,0,none⟩) 1 1,.slice none 0 0,.slice none 0 0] 50):=by simpa using heap_alloc_new ((w3.alloc (qQ r2 (W64 r3))).alloc (.cells #[.int .i64 1,.int .i64 0,.int .i64 1,.string ⟨#[]⟩,.slice none 0 0] 48)) (.cells #[.int .i64 8,.int .i64 0,.string ⟨#[]⟩,.slice (some ⟨w3.heap.size+1,0,none⟩) 1 1,.slice none 0 0,.slice none 0 0] 50)
     have hc8:Below w2.heap.size (w2.alloc (ze A0 1 c0 (some ⟨g,o,none⟩) 2 c1)) (((w3.alloc (qQ r2 (W64 r3))).alloc (.cells #[.int .i64 1,.int .i64 0,.int .i64 1,.string ⟨#[]⟩,.slice none 0 0] 48)).alloc (.cells #[.int .i64 8,.int .i64 0,.string ⟨#[]⟩,.slice (some ⟨w3.heap.size+1,0,none⟩) 1 1,.slice none 0 0,.slice none 0 0] 50)):=HC3.out.trans (hb8.mono (by omega))
     have hw8:Below w.heap.size w (((w3.alloc (qQ r2 (W64 r3))).alloc (.cells #[.int .i64 1,.int .i64 0,.int .i64 1,.string ⟨#[]⟩,.slice none 0 0] 48)).alloc (.cells #[.int .i64 8,.int .i64 0,.string ⟨#[]⟩,.slice (some ⟨w3.heap.size+1,0,none⟩) 1 1,.slice none 0 0,.slice none 0 0] 50)):=HB3.out.trans (hb8.mono (by omega))
     generalize (((w3.alloc (qQ r2 (W64 r3))).alloc (.cells #[.int .i64 1,.int .i64 0,.int .i64 1,.string ⟨#[]⟩,.slice none 0 0] 48)).alloc (.cells #[.int .i64 8,.int .i64 0,.string ⟨#[]⟩,.slice (some ⟨w3.heap.size+1,0,none⟩) 1 1,.slice none 0 0,.slice none 0 0] 50))=w8 at *
     obtain⟨A3,c3,rfl,hbl⟩:=SlS.form HPF.out.2.1
     obtain⟨A2,c2,rfl,_⟩:=SlP.form HPF.out.1
     obtain⟨_,_,ps,hps,hpc,hpi⟩:=slS_parts (HPF.out.2.1.below hc8 (Nat.le_refl _))
     have hpl:ps.length=b.length:=by rw[show b.length=(kE b).body.length from rfl,←hps,List.length_map]
     have hblen:(kE b).body.length=b.length:=rfl
     obtain⟨i0,hi,hi0,hi1,hi2⟩:=info_parts st_info
     have HI0:=hid (And.intro hi (And.intro hi0 (And.intro hi1 hi2)))
     have HN0:=hid (World.ownsRow_nil w8 w8.heap.size 50 6)
     have HPS:=hid hps
     have HPC:=hid hpc
     have HPL:=hid (show (xG ps).length=b.length * 6 by rw[stCs_len,hpl])
     have HPI:=hid hpi
     have HP1:=hid (stCs_one hpi)
     have HA3:=hid (show A3=none→b.length=0 from fun h=>by
      obtain⟨A',c',hv,_,hF⟩:=HPF.out.2.1
      injection hv with e1 e2 e3
      by_cases h0:0<(kE b).body.length
      · obtain⟨_,_,h7,_⟩:=hF h0
        rw[←e1,h]at h7
        cases h7
      · rw[←hblen];omega)
     have hyz:∀ x,w8.cell? ⟨g,x,none⟩=(w2.alloc (ze A0 1 c0 (some ⟨g,o,none⟩) 2 c1)).cell? ⟨g,x,none⟩:=fun x=>hc8.cell (p:=⟨g,x,none⟩) hgs
     have HYZ:=hid (show w8.cell? ⟨g,o+2,none⟩=some (.slice A2 (kE b).params.length c2)∧w8.cell? ⟨g,o+4,none⟩=some (.string xv.name)∧w8.cell? ⟨g,o+4+1,none⟩=some (.int .i64 xv.type)∧w8.cell? ⟨g,o+4+2,none⟩=some a1∧w8.cell? ⟨g,o+4+3,none⟩=some b1 from by
      refine⟨(hyz _).trans ?_,(hyz _).trans ?_,(hyz _).trans ?_,(hyz _).trans ?_,(hyz _).trans ?_⟩
      · have h:=y2;simp only[Nat.zero_mul,Nat.add_zero]at h;exact h
      · have h:=z0;simp only[Nat.one_mul]at h;exact h
      · have h:=z1;simp only[Nat.one_mul]at h;exact h
      · have h:=z2;simp only[Nat.one_mul]at h;exact h
      · have h:=z3;simp only[Nat.one_mul]at h;exact h)
     clear hyz
     have hb9:b.length≤1000000000:=by
      have h1:=HSM.out.cn (kE b) (by simp[ji])
      have h2:=cnt_ge b
      have h3:(kE b).body=b:=rfl
      rw[h3]at h1
      omega
     rw[hblen]at y3
     have y3':w8.cell? ⟨g,o+3,none⟩=some (.slice A3 b.length c3):=(hc8.cell (p:=⟨g,o+3,none⟩) hgs).trans (by have h:=y3;simp only[Nat.zero_mul,Nat.add_zero]at h;exact h)
     obtain⟨⟨m0,m1⟩,mz⟩:=zE hx8
     obtain⟨⟨q0,q1⟩,qz⟩:=zE ((hb8.block w2.heap.size (by omega)).trans HY3.out)
     obtain⟨n0,n1,n2,n3,n4,n5⟩:=zT ho8
     have HO8:=hid ho8
     have HX8:=hid hx8
     have HE8:=hid he8
     have HP8:=hid ((hb8.block w2.heap.size (by omega)).trans HY3.out)
     have HC8:=hid hc8
     have HW8:=hid hw8
     clear hi hi0 hi1 hi2 hpc hpi hps hc8 hw8
     go_upto_region 11 with(first
      | (at_builtin;refine vI rfl (.tmp 44) (.tmp 49) _ rfl w8.heap.size 50 i0 _ 6 104 Tryd.underlying37 HI0.out.1 HI0.out.2.1 HI0.out.2.2.1 HI0.out.2.2.2 rfl (by omega) (.slice none 0 0) 0 [] rfl (by exact HN0.out) A3 b.length c3 (xG ps) rfl HPL.out HA3.out HPC.out HP1.out (by simp only[maxLen];omega) (by omega) (Nat.le_refl _) ?_
         intro vs w9 hown hg9
         rw[Nat.zero_add,List.nil_append]at hown
         have HO9:=hid hown
         have HB9:=hid (show Below w8.heap.size w8 w9 from(Below.refl _ _).grown hg9 (Nat.le_refl _) fun k hk=>by cases hk)
         clear hown hg9))
     obtain⟨A9,c9,rfl⟩:=zp HO9.out
     have hz9:w8.heap.size≤w9.heap.size:=HB9.out.size
     obtain⟨l0,l1,l2,l3,l4,l5⟩:=zT ((HB9.out.block (w3.heap.size+1+1) (by omega)).trans HO8.out)
     have HPRE:=hid (zh HO9.out (.cells #[.int .i64 8,.int .i64 0,.string ⟨#[]⟩,.slice (some ⟨w3.heap.size+1,0,none⟩) 1 1,.slice none 0 0,.slice none 0 0] 50))
     have HNW:=hid (jJ w9 [.int .i64 8,.int .i64 0,.string ⟨#[]⟩,.slice (some ⟨w3.heap.size+1,0,none⟩) 1 1,.slice none 0 0,.slice none 0 0] 50 w9.heap.size rfl)
     have hgB:=fun k (hk:(Value.slice A9 b.length c9).ownBlock=some k)=>zH HO9.out k hk
     have HGB:=hid hgB
     clear hgB
     go_upto_region 12 with(first
      | (at_builtin;refine wpList_append_own _ rfl (.tmp 51) (.tmp 53) _ rfl w8.heap.size 50 i0 _ 6 104 Tryd.underlying37 HI0.out.1 HI0.out.2.1 HI0.out.2.2.1 HI0.out.2.2.2 rfl (by omega) (.slice A9 b.length c9) b.length _ rfl (by exact HPRE.out) ⟨w9.heap.size,0,none⟩ 1 1 [.int .i64 8,.int .i64 0,.string ⟨#[]⟩,.slice (some ⟨w3.heap.size+1,0,none⟩) 1 1,.slice none 0 0,.slice none 0 0] rfl rfl (by exact HNW.out) (by simp[Value.oneCell']) (by simp only[maxLen];omega) (by omega) (by simp;omega) ?_
         intro vt w10 hown10 hg10 _
         have HO10:=hid hown10
         have HB10:=hid (show Below w8.heap.size w9 w10 from((Below.refl _ _).alloc hz9 (.cells #[.int .i64 8,.int .i64 0,.string ⟨#[]⟩,.slice (some ⟨w3.heap.size+1,0,none⟩) 1 1,.slice none 0 0,.slice none 0 0] 50)).grown hg10 (by rw[zA];omega) fun k hk=>(HGB.out k hk).1)
         clear hown10 hg10))
     have hb810:Below w8.heap.size w8 w10:=HB9.out.trans HB10.out
     have hz10:w8.heap.size≤w10.heap.size:=hb810.size
     have hex:w10.heap[w3.heap.size+1]? =some (.cells #[.int .i64 1,.int .i64 0,.int .i64 1,.string ⟨#[]⟩,.slice none 0 0] 48):=(hb810.block (w3.heap.size+1) (by omega)).trans HE8.out
     have hse:kf w10.heap.size w10 (.slice (some ⟨w3.heap.size+1,0,none⟩) 1 1) [.mk 1 0 1 ⟨#[]⟩ []]:=⟨_,1,rfl,by simp,fun _=>⟨w3.heap.size+1,0,rfl,by
      have hlt:w3.heap.size+1<w10.heap.size:=by omega
      rw[jh,RdE]
      refine⟨⟨⟨hlt,(Lib.cell_of_heap hex 0).trans rfl⟩,⟨hlt,(Lib.cell_of_heap hex 1).trans rfl⟩,⟨hlt,(Lib.cell_of_heap hex 2).trans rfl⟩,⟨hlt,(Lib.cell_of_heap hex 3).trans rfl⟩,by unfold i64R;omega,.slice none 0 0,⟨hlt,(Lib.cell_of_heap hex 4).trans rfl⟩,⟨none,0,rfl,by simp,fun h=>absurd h (by simp)⟩⟩,?_⟩
      rw[jh]
      trivial⟩⟩
     have hsl:SlS w10.heap.size w10 vt (b++[x6]):=by
      have h1:w10.ownsRow w8.heap.size 50 6 vt (b.length+1) (xG (ps++[⟨x6,.slice (some ⟨w3.heap.size+1,0,none⟩) 1 1,.slice none 0 0,.slice none 0 0⟩])):=by rw[stCs_snoc];exact HO10.out
      have h2:=own_stmts h1 (by rw[List.length_append,hpl];rfl) (by omega) (B:=w10.heap.size) (fun k hk=>(zH h1 k hk).2) fun q hq=>by
       rcases List.mem_append.1 hq with hq | hq
       · exact stIn_imp (fun g o u hc=>CellB.below (hb810.mono (by omega)) (by omega) hc) (HPI.out q hq)
       · obtain rfl:=List.mem_singleton.1 hq
         exact⟨hse,slS_nil _ _,slS_nil _ _⟩
      rw[List.map_append,HPS.out]at h2
      exact h2
     obtain⟨A10,c10,rfl,_⟩:=SlS.form hsl
     rw[show (b++[x6]).length=b.length+1 by simp]at hsl
     have HSL:=hid hsl
     have HB810:=hid hb810
     have hq11:=heap_alloc_new w10 (ze A0 1 c0 (some ⟨g,o,none⟩) 2 c1)
     have hb11:Below w10.heap.size w10 (w10.alloc (ze A0 1 c0 (some ⟨g,o,none⟩) 2 c1)):=(Below.refl _ _).alloc (Nat.le_refl _) (ze A0 1 c0 (some ⟨g,o,none⟩) 2 c1)
     have hz11:(w10.alloc (ze A0 1 c0 (some ⟨g,o,none⟩) 2 c1)).heap.size=w10.heap.size+1:=zA _ _
     have hgw:g<w8.heap.size:=by omega
     have hyz:∀ x,(w10.alloc (ze A0 1 c0 (some ⟨g,o,none⟩) 2 c1)).cell? ⟨g,x,none⟩=w8.cell? ⟨g,x,none⟩:=fun x=>(hb11.cell (p:=⟨g,x,none⟩) (by show g<w10.heap.size;omega)).trans (hb810.cell (p:=⟨g,x,none⟩) hgw)
     have u2:=(hyz _).trans HYZ.out.1
     have t0:=(hyz _).trans HYZ.out.2.1
     have t1:=(hyz _).trans HYZ.out.2.2.1
     have t2:=(hyz _).trans HYZ.out.2.2.2.1
     have t3:=(hyz _).trans HYZ.out.2.2.2.2
     have hx10:=(hb810.block w2.heap.size (by omega)).trans HP8.out
     obtain⟨⟨f0,f1⟩,fz⟩:=zE hx10
     have hx11:=(hb11.block w2.heap.size (by omega)).trans hx10
     clear hyz hx10 hsl hse hex hb810
     go_upto_region 13 with(fail)
     generalize w10.alloc (ze A0 1 c0 (some ⟨g,o,none⟩) 2 c1)=W11 at *
     obtain⟨⟨g0,g1⟩,gz⟩:=zE hx11
     obtain⟨⟨j0,j1⟩,jz⟩:=zE hq11
     have hgw1:g<W11.heap.size:=by omega
     have hpw1:w2.heap.size<W11.heap.size:=by omega
     have HX11:=hid hx11
     have HQ11:=hid hq11
     have HB11:=hid hb11
     clear hx11 hq11 hb11
     go_wp2_with (fail)
     go_still_tail 11,(by kernel_rfl)
     repeat still_step
     change wpList _ _ _ _ _ W11.drew
     go_upto_region 14 with(fail)
     have hs1:Below w10.heap.size W11 (W11.setCell ⟨w10.heap.size,1,none⟩ (.slice (some ⟨w10.heap.size+1,0,none⟩) 2 2)):=(Below.refl _ _).setCell (p:=⟨w10.heap.size,1,none⟩) (Nat.le_refl _) _
     have hsz:(W11.setCell ⟨w10.heap.size,1,none⟩ (.slice (some ⟨w10.heap.size+1,0,none⟩) 2 2)).heap.size=W11.heap.size:=by simp[World.setCell]
     have hs2:Below w10.heap.size W11 (((W11.setCell ⟨w10.heap.size,1,none⟩ (.slice (some ⟨w10.heap.size+1,0,none⟩) 2 2)).alloc (fu2O ⟨#[102]⟩ 1 (.slice A2 (kE b).params.length c2) (.slice A10 (b.length+1) c10) xv.name xv.type a1 b1)).drew):=(hs1.trans ((Below.refl _ _).alloc (by rw[hsz,hz11];omega) _)).drew
     have hz12:(((W11.setCell ⟨w10.heap.size,1,none⟩ (.slice (some ⟨w10.heap.size+1,0,none⟩) 2 2)).alloc (fu2O ⟨#[102]⟩ 1 (.slice A2 (kE b).params.length c2) (.slice A10 (b.length+1) c10) xv.name xv.type a1 b1)).drew).heap.size=w10.heap.size+1+1:=by
      show ((W11.setCell ⟨w10.heap.size,1,none⟩ (.slice (some ⟨w10.heap.size+1,0,none⟩) 2 2)).alloc _).heap.size=_
      rw[zA,hsz,hz11]
     have hu12:(((W11.setCell ⟨w10.heap.size,1,none⟩ (.slice (some ⟨w10.heap.size+1,0,none⟩) 2 2)).alloc (fu2O ⟨#[102]⟩ 1 (.slice A2 (kE b).params.length c2) (.slice A10 (b.length+1) c10) xv.name xv.type a1 b1)).drew).heap[w10.heap.size+1]? =some (fu2O ⟨#[102]⟩ 1 (.slice A2 (kE b).params.length c2) (.slice A10 (b.length+1) c10) xv.name xv.type a1 b1):=by
      have:=heap_alloc_new (W11.setCell ⟨w10.heap.size,1,none⟩ (.slice (some ⟨w10.heap.size+1,0,none⟩) 2 2)) (fu2O ⟨#[102]⟩ 1 (.slice A2 (kE b).params.length c2) (.slice A10 (b.length+1) c10) xv.name xv.type a1 b1)
      rw[hsz,hz11]at this
      exact this
     have hq12:(((W11.setCell ⟨w10.heap.size,1,none⟩ (.slice (some ⟨w10.heap.size+1,0,none⟩) 2 2)).alloc (fu2O ⟨#[102]⟩ 1 (.slice A2 (kE b).params.length c2) (.slice A10 (b.length+1) c10) xv.name xv.type a1 b1)).drew).heap[w10.heap.size]? =some (ze A0 1 c0 (some ⟨w10.heap.size+1,0,none⟩) 2 2):=(Below.heap_alloc (W11.setCell ⟨w10.heap.size,1,none⟩ (.slice (some ⟨w10.heap.size+1,0,none⟩) 2 2)) _ w10.heap.size (by rw[hsz,hz11];omega)).trans (Lib.heap_setCell_same HQ11.out _)
     have hx12:(((W11.setCell ⟨w10.heap.size,1,none⟩ (.slice (some ⟨w10.heap.size+1,0,none⟩) 2 2)).alloc (fu2O ⟨#[102]⟩ 1 (.slice A2 (kE b).params.length c2) (.slice A10 (b.length+1) c10) xv.name xv.type a1 b1)).drew).heap[w3.heap.size]? =some (qQ r2 (W64 r3)):=(hs2.block w3.heap.size (by omega)).trans ((HB11.out.block w3.heap.size (by omega)).trans ((HB810.out.block w3.heap.size (by omega)).trans HX8.out))
     generalize (((W11.setCell ⟨w10.heap.size,1,none⟩ (.slice (some ⟨w10.heap.size+1,0,none⟩) 2 2)).alloc (fu2O ⟨#[102]⟩ 1 (.slice A2 (kE b).params.length c2) (.slice A10 (b.length+1) c10) xv.name xv.type a1 b1)).drew)=W12 at *
     have hb12:Below w10.heap.size w10 W12:=HB11.out.trans hs2
     have hb10:Below w8.heap.size w8 W12:=HB810.out.trans (hb12.mono hz10)
     have hz1012:w10.heap.size≤W12.heap.size:=by omega
     have hc12:Below w2.heap.size (w2.alloc (ze A0 1 c0 (some ⟨g,o,none⟩) 2 c1)) W12:=HC8.out.trans (hb10.mono (by omega))
     have HH12:=hid (show Laid5 W12.heap.size (ji (b++[x6])) (.slice A0 1 c0) (.slice (some ⟨w10.heap.size+1,0,none⟩) 2 2) W12 from
      ⟨Nat.le_refl _,(HG2.out.keep hc12).tab.mono (by omega),(HG2.out.keep hc12).ha.below (Below.refl _ _) (by omega),slF_two (f0:=kE (b++[x6])) (f1:=xv) (by omega) hu12 (HPF.out.1.below hc12 (by omega)) (HSL.out.below hb12 hz1012) (HPF.out.2.2.1.below hc12 (by omega)) (HPF.out.2.2.2.below hc12 (by omega))⟩)
     have HSL12:=hid (show SlS W12.heap.size W12 (.slice A10 (b.length+1) c10) (b++[x6]) from HSL.out.below hb12 hz1012)
     have HB12:=hid (HW8.out.trans (hb10.mono (by omega)))
     have HX12:=hid hx12
     have HQ12:=hid hq12
     obtain⟨⟨i0,i1⟩,iz⟩:=zE hx12
     obtain⟨⟨j2,j3⟩,jy⟩:=zE hq12
     clear hs1 hsz hs2 hu12 hq12 hx12 hb10 hc12 g0 g1 gz j0 j1 jz u2 t0 t1 t2 t3 f0 f1 fz
     have HSM2:=hid (body_more HR.out HD.out)
     obtain⟨⟨t1,t2,t3⟩,hS⟩:∃ R,kC (ji (b++[x6]))=R:=⟨_,rfl⟩
     have hlaw:=more_two HSM.out.ok HRR.out hS
     have HSS:=hid hS
     have HOKS:=hid (show zj (b++[x6]) 100=true from(kl (body_more HR.out HD.out).ok (show kE (b++[x6]) ∈ (ji (b++[x6])).funcs by simp[ji])).1)
     clear hS
     have hcase:(r1=0∧t1=0)∨(r1=52∧t1=0)∨(r1≠0∧r1≠52∧t1=r1∧t2=r2∧t3=r3):=by
      rcases hlaw with⟨h1 | h1,h2⟩ | h
      · exact .inl ⟨h1,h2⟩
      · exact .inr (.inl ⟨h1,h2⟩)
      · exact .inr (.inr h)
     clear hlaw
     rcases hcase with⟨rfl,rfl⟩ | ⟨rfl,rfl⟩ | ⟨h0,h52,rfl,rfl,rfl⟩
     rotate_left 2
     · have hn0:(t1 == 0)=false:=by simp[h0]
       have hn52:(t1 == 52)=false:=by simp[h52]
       go_wp2_with (first
        | (go_at_call 11;(with_reducible refine(HH12.out.chk3 HSM2.out HSS.out).mono ?_);rintro e w6 ⟨rfl,hb⟩
           have hz6:W12.heap.size≤w6.heap.size:=hb.size
           have hb6:Below w6.heap.size w6 (w6.alloc (qQ t2 (W64 t3))):=(Below.refl _ _).alloc (Nat.le_refl _) _
           have hx6:=(hb6.block w3.heap.size (by omega)).trans ((hb.block w3.heap.size (by omega)).trans HX12.out)
           have hy6:=heap_alloc_new w6 (qQ t2 (W64 t3))
           obtain⟨⟨m0,m1⟩,mz⟩:=zE hy6
           have HB6:=hid (HB12.out.trans ((hb.trans (hb6.mono hz6)).mono (by omega)))
           have HSL6:=hid (HSL12.out.below ((hb.trans (hb6.mono hz6))) (Nat.le_refl _))
           clear hb hb6 hy6
           obtain⟨⟨l0,l1⟩,lz⟩:=zE hx6))
       go_ret
       exact⟨zD (by simp),HB6.out⟩
     all_goals
      go_wp2_with (first
       | (go_at_call 11;(with_reducible refine(HH12.out.chk3 HSM2.out HSS.out).mono ?_);rintro e w6 ⟨rfl,hb⟩
          have hz6:W12.heap.size≤w6.heap.size:=hb.size
          have hb6:Below w6.heap.size w6 (w6.alloc (qQ t2 (W64 t3))):=(Below.refl _ _).alloc (Nat.le_refl _) _
          have hx6:=(hb6.block w3.heap.size (by omega)).trans ((hb.block w3.heap.size (by omega)).trans HX12.out)
          have hy6:=heap_alloc_new w6 (qQ t2 (W64 t3))
          obtain⟨⟨m0,m1⟩,mz⟩:=zE hy6
          have HB6:=hid (HB12.out.trans ((hb.trans (hb6.mono hz6)).mono (by omega)))
          have HSL6:=hid (HSL12.out.below ((hb.trans (hb6.mono hz6))) (Nat.le_refl _))
          clear hb hb6 hy6)
       | (go_at_call 13
          (refine(EnC.call (vq 100) (B:=W12.heap.size) HOKS.out (endSs_ret b) (by rw[zA];omega) HSL6.out).mono ?_)
          rintro e w7 ⟨rfl,hb⟩
          have HB7:=hid (HB6.out.trans (hb.mono (by rw[zA];omega)))
          clear hb))
      go_ret
      exact⟨zD (by simp),HB7.out⟩
   · have hne:((p.funcs.length:Int) != 2)=true:=by simp;omega
     go_wp2_with (fail)
     go_ret
     exact⟨rfl,HB2.out⟩
 · have hne:(e1 != 0)=true:=by simp[he]
   go_wp2_with (fail)
   go_ret
   exact⟨rfl,HB2.out⟩
end Go.Proofs.YtndgkfkieogplaaDoor
