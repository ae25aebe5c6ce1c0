import Derived.Test.YtndgkfkieogplaaDoorAgParUn
import Derived.Deep.RegionHeld3
set_option linter.unusedSimpArgs false
set_option linter.unusedVariables false
set_option maxRecDepth 100000
/- The document's parser: expressions of a level. -/
namespace Go.Proofs.YtndgkfkieogplaaDoor
open Lib (hid)
open Go.RowKit
theorem args_any {b:Nat} {V:Value} {all:List Tok} {n:Nat} {d:Int} (hE:∀ m,m≤n→CE b V all m 1 d):CA b V all (n+1) d:=by
 intro w x h hn
 cases x with
 | ok u r=>exact args_live hE h hn
 | bad r=>exact(args_over h rfl d).mono fun e w' ⟨he,hD⟩=>⟨_,he,hD,[],vC _ _⟩
 | deep r=>exact(args_over h rfl d).mono fun e w' ⟨he,hD⟩=>⟨_,he,hD,[],vC _ _⟩
 | out=>exact absurd h id
theorem expr_top {b:Nat} {V:Value} {all:List Tok} {n:Nat} {d:Int} (hU:CU b V all n d):CE b V all (n+1) 11 d:=by
 intro w x h hn
 have e1:(x.bind fun _ r=>pE (n+1) 11 d r)=x.bind fun _ r=>pU n d r:=by
  cases x with
  | ok u r=>show pE (n+1) 11 d r=pU n d r;rw[pE,if_pos (by decide)]
  | _=>rfl
 rw[e1]at hn ⊢
 have HC:=hid (jm.start h)
 have HN:=hid hn
 have HU:=hid hU
 clear h hn hU e1
 go_enter Tryd.func81,Tryd.ntmps81
 go_wp2_with (first
  | (go_at_call 86;(with_reducible refine(HU.out.call HC.out.st HN.out).mono ?_);rintro e w2 ⟨v,rfl,hD,hG⟩
     obtain⟨k1,k2,k3,k4,k5,k6,k7,rfl⟩:=q6 hG HN.out
     have hz1:=HC.out.size
     have HG:=hid hG
     replace HC:=hid (HC.out.step hD)
     clear hD hG
     obtain⟨⟨c0,c1,c2,c3,c4⟩,fz⟩:=HC.out.own))
 obtain⟨f0,f1,f2,f3,f4⟩:=HC.out.read (.int .i64 k1) (.int .i64 k2) (.int .i64 k3) (.string k4) (.slice k5 k6 k7)
 refine bodyPost_ret (v:=.agg #[.int .i64 k1,.int .i64 k2,.int .i64 k3,.string k4,.slice k5 k6 k7]) (by simp[results,Tryd.results81,go_sem,f0,f1,f2,f3,f4]) rfl ?_
 exact HC.out.fin rfl (HG.out.imp fun a ha=>kN.writ ha hz1 _ _ _ _ _)
def aMask (L g:Nat):Nat→Bool:=fun k=>decide (k<L) || k == g
theorem aMask_no {L g k:Nat}:aMask L g k=false↔L≤k∧k≠g:=by
 unfold aMask
 simp[Bool.or_eq_false_iff]
def Holds (L g:Nat) (w:World) (a:Ex):Prop:=
 ∃ k o n s A m c,w.heap[g]? =some (.cells #[.int .i64 k,.int .i64 o,.int .i64 n,.string s,.slice A m c] 48 (0,0))∧vB w.heap.size (mask (aMask L g) w) a (.agg #[.int .i64 k,.int .i64 o,.int .i64 n,.string s,.slice A m c])
def ExprRel (b:Nat) (V:Value) (all:List Tok) (w:World) (T:PR Ex) (n:Nat) (lev d:Int) (g:Nat) (wr:World):Prop:=
 ∃ (m:Nat) (a:Ex) (y:PR Unit),m≤n∧jm b V all w y wr∧Holds (w.heap.size+1) g wr a∧T=y.bind fun _ r=>pL m lev d a r
theorem vG {L:Nat} {w2:World} {a:Ex} {k o n:Int} {s:ByteArray} {A:Option Addr} {m c:Nat} (h:kN L w2 a (.agg #[.int .i64 k,.int .i64 o,.int .i64 n,.string s,.slice A m c])):
 Holds L w2.heap.size (w2.alloc (.cells #[.int .i64 k,.int .i64 o,.int .i64 n,.string s,.slice A m c] 48)) a:=by
 refine⟨k,o,n,s,A,m,c,heap_alloc_new w2 _,?_⟩
 refine h.imp fun g o u hc=>?_
 obtain⟨hp,hc⟩:=jj hc
 have hg:=hc.1
 refine jU (aMask_no.2 ⟨kY.1 hp,by omega⟩) ⟨by simp;omega,?_⟩
 exact(World.cell?_of_block (w:=w2) (Below.heap_alloc w2 _ g hg)).trans hc.2
theorem expr_start {b:Nat} {V:Value} {all:List Tok} {w w2:World} {X:PR Ex} {n:Nat} {lev d:Int} {k o q:Int} {s:ByteArray} {A:Option Addr} {m c:Nat} (hC:jm b V all w X.un w2)
 (hG:jE X fun a=>kN (w.alloc yR).heap.size w2 a (.agg #[.int .i64 k,.int .i64 o,.int .i64 q,.string s,.slice A m c])):
 ExprRel b V all w (X.bind fun a r=>pL n lev d a r) n lev d w2.heap.size (w2.alloc (.cells #[.int .i64 k,.int .i64 o,.int .i64 q,.string s,.slice A m c] 48)):=by
 have hL:(w.alloc yR).heap.size=w.heap.size+1:=zA _ _
 rw[hL]at hG
 cases X with
 | ok a r=>exact⟨n,a,.ok () r,Nat.le_refl _,hC.alloc _,vG hG,rfl⟩
 | bad r=>
   obtain⟨a,ha⟩:=hG
   exact⟨n,a,.bad r,Nat.le_refl _,hC.alloc _,vG ha,rfl⟩
 | deep r=>
   obtain⟨a,ha⟩:=hG
   exact⟨n,a,.deep r,Nat.le_refl _,hC.alloc _,vG ha,rfl⟩
 | out=>exact absurd hC.st id
theorem expr_end {lev d:Int} {y:PR Unit} {T:PR Ex} {m:Nat} {a:Ex} (ho:opX lev y=0) (hT:T=y.bind fun _ r=>pL m lev d a r) (hn:zG T):T.un=y∧∀ P:Ex→Prop,P a→jE T P:=by
 subst hT
 cases y with
 | ok u r=>
   cases m with
   | zero=>exact absurd (show zG (pL 0 lev d a r) from hn) (by rw[pL];exact id)
   | succ m=>
     have e:pL (m+1) lev d a r=.ok a r:=by rw[pL,if_pos (show opAt lev r=0 from ho)]
     show (pL (m+1) lev d a r).un=_∧_
     have e2:((PR.ok u r).bind fun _ r=>pL (m+1) lev d a r)=.ok a r:=e
     rw[e2,e]
     exact⟨rfl,fun P hP=>hP⟩
 | bad r=>exact⟨rfl,fun P hP=>⟨a,hP⟩⟩
 | deep r=>exact⟨rfl,fun P hP=>⟨a,hP⟩⟩
 | out=>exact absurd hn id
theorem holds_end {b g:Nat} {V:Value} {all:List Tok} {w wr w3:World} {x:PR Unit} {a:Ex} {v:Value} {c0 c1 c2 c3 c4:Value} (h:vB wr.heap.size (mask (aMask (w.heap.size+1) g) wr) a v) (hD:q7 b V all wr x w3) (hb:b<wr.heap.size) (hbw:b≤w.heap.size):
 kN w.heap.size (writ w3 w.heap.size c0 c1 c2 c3 c4) a v:=by
 refine h.imp fun k o u hc=>?_
 obtain⟨hp,hc⟩:=jj hc
 obtain⟨h1,h2⟩:=aMask_no.1 hp
 refine jU (kY.2 (by omega)) ⟨?_,?_⟩
 · rw[xM]
   exact Nat.lt_of_lt_of_le hc.1 hD.off.size
 · refine(World.cell?_of_block (w:=wr) ?_).trans hc.2
   exact(writ_other (show k≠w.heap.size by omega) _ _ _ _ _).trans (hD.off.block hc.1 (by omega))
theorem opX_ok {lev o:Int} {y:PR Unit} (h:opX lev y=o) (ho:¬ o=0):∃ r,y=.ok () r∧opAt lev r=o:=by
 cases y with
 | ok u r=>exact⟨r,rfl,h⟩
 | bad r=>exact absurd h.symm ho
 | deep r=>exact absurd h.symm ho
 | out=>exact absurd h.symm ho
theorem cur_next {b:Nat} {V:Value} {all r:List Tok} {w W:World} {kk:Int} (h:jm b V all w (.ok () r) W) (hk:yQ r≠3) (hkk:((all.length-r.length:Nat):Int)=kk):jm b V all w (.ok () r.tail) (W.setCell ⟨b,1,none⟩ (.int .i64 (kk+1))):=by
 have hp:zY b V all r false false W:=h.st
 have h2:=hp.next hk
 rw[hkk]at h2
 exact h.step ⟨h2,(OffB.refl b _ W).setb hp.lt 1 _⟩
theorem cur_at {b:Nat} {V:Value} {all r:List Tok} {w W:World} {kk:Int} (h:jm b V all w (.ok () r) W) (hkk:((all.length-r.length:Nat):Int)=kk):W.cell? ⟨b,1,none⟩=some (.int .i64 kk)∧W.frozen? ⟨b,1,none⟩=false:=by
 have hp:zY b V all r false false W:=h.st
 exact⟨hkk ▸ hp.cells.2.1,hp.1.frozen 1⟩
theorem row_off {b g:Nat} {W:World} {o:Obj} (h:W.heap[g]? =some o) (hg:g≠b) (u:Value):(W.setCell ⟨b,1,none⟩ u).heap[g]? =some o:=(Below.heap_setCell W _ u g (by show g≠b;exact hg)).trans h
theorem expr_round {b g:Nat} {V:Value} {all r:List Tok} {w wr w3 w5:World} {x:PR Unit} {a:Ex} {T:PR Ex} {q:Nat} {lev d o kk:Int} {k1 k2 k3 j1 j2 j3:Int} {k4 j4:ByteArray} {A0 A1:Option Addr} {m0 q0 m1 q1:Nat}
 (hV:vB wr.heap.size (mask (aMask (w.heap.size+1) g) wr) a (.agg #[.int .i64 k1,.int .i64 k2,.int .i64 k3,.string k4,.slice A0 m0 q0])) (hD:q7 b V all wr x w3)
 (hD5:q7 b V all (w3.setCell ⟨b,1,none⟩ (.int .i64 (kk+1))) ((PR.ok () r).bind fun _ r=>pE q (lev+1) d r).un w5) (hC:jm b V all w ((PR.ok () r).bind fun _ r=>pE q (lev+1) d r).un w5) (hrow:w5.heap[g]? =some (.cells #[.int .i64 k1,.int .i64 k2,.int .i64 k3,.string k4,.slice A0 m0 q0] 48 (0,0)))
 (hG:jE ((PR.ok () r).bind fun _ r=>pE q (lev+1) d r) fun e=>kN (w3.setCell ⟨b,1,none⟩ (.int .i64 (kk+1))).heap.size w5 e (.agg #[.int .i64 j1,.int .i64 j2,.int .i64 j3,.string j4,.slice A1 m1 q1]))
 (hT:T=(pE q (lev+1) d r).bind fun e r=>pL q lev d (.mk 5 o 0 bE [a,e]) r) (hgr:g<wr.heap.size) (hwr:w.heap.size<wr.heap.size) (hgb:g≠b) (hbw:b<w.heap.size) (hgw:w.heap.size<g):
 (∀ n,q≤n→ExprRel b V all w T n lev d g (((nest w5 g (.int .i64 5) (.int .i64 o) (.int .i64 0) (.string ⟨#[]⟩) (.slice (some ⟨w5.heap.size+1,0,none⟩) 2 2)).alloc (.cells #[.int .i64 j1,.int .i64 j2,.int .i64 j3,.string j4,.slice A1 m1 q1] 48)).alloc (.cells #[.int .i64 k1,.int .i64 k2,.int .i64 k3,.string k4,.slice A0 m0 q0,.int .i64 j1,.int .i64 j2,.int .i64 j3,.string j4,.slice A1 m1 q1] 48)))∧
 q7 b V all w ((PR.ok () r).bind fun _ r=>pE q (lev+1) d r).un (((nest w5 g (.int .i64 5) (.int .i64 o) (.int .i64 0) (.string ⟨#[]⟩) (.slice (some ⟨w5.heap.size+1,0,none⟩) 2 2)).alloc (.cells #[.int .i64 j1,.int .i64 j2,.int .i64 j3,.string j4,.slice A1 m1 q1] 48)).alloc (.cells #[.int .i64 k1,.int .i64 k2,.int .i64 k3,.string k4,.slice A0 m0 q0,.int .i64 j1,.int .i64 j2,.int .i64 j3,.string j4,.slice A1 m1 q1] 48)):=by
 obtain⟨W,hW⟩:∃ W,W=(((nest w5 g (.int .i64 5) (.int .i64 o) (.int .i64 0) (.string ⟨#[]⟩) (.slice (some ⟨w5.heap.size+1,0,none⟩) 2 2)).alloc (.cells #[.int .i64 j1,.int .i64 j2,.int .i64 j3,.string j4,.slice A1 m1 q1] 48)).alloc (.cells #[.int .i64 k1,.int .i64 k2,.int .i64 k3,.string k4,.slice A0 m0 q0,.int .i64 j1,.int .i64 j2,.int .i64 j3,.string j4,.slice A1 m1 q1] 48)):=⟨_,rfl⟩
 rw[←hW]
 have hCW:jm b V all w ((PR.ok () r).bind fun _ r=>pE q (lev+1) d r).un W:=hW ▸ (((hC.nest hgw _ _ _ _ _).alloc _).alloc _)
 have hns:(nest w5 g (.int .i64 5) (.int .i64 o) (.int .i64 0) (.string ⟨#[]⟩) (.slice (some ⟨w5.heap.size+1,0,none⟩) 2 2)).heap.size=w5.heap.size:=xM _ _ _ _ _ _ _
 have hWs:W.heap.size=w5.heap.size+2:=by rw[hW,zA,zA,hns]
 have hg5:g<w5.heap.size:=(Array.getElem?_eq_some_iff.1 hrow).1
 have h35:w3.heap.size≤w5.heap.size:=by have:=hD5.off.size;rw[jp]at this;exact this
 have hr3:wr.heap.size≤w3.heap.size:=hD.off.size
 have hold5:∀ k,k<w5.heap.size→k≠g→W.heap[k]? =w5.heap[k]?:=fun k hk hne=>by
  rw[hW,Below.heap_alloc _ _ _ (by rw[zA,hns];omega),Below.heap_alloc _ _ _ (by rw[hns];exact hk)]
  exact writ_other hne _ _ _ _ _
 have holdr:∀ k,k<wr.heap.size→k≠g→k≠b→W.heap[k]? =wr.heap[k]?:=fun k hk hne hnb=>by
  rw[hold5 k (by omega) hne,hD5.off.block (by rw[jp];omega) hnb,Below.heap_setCell _ _ _ _ (by show k≠b;exact hnb),hD.off.block hk hnb]
 have hWg:W.heap[g]? =some (.cells #[.int .i64 5,.int .i64 o,.int .i64 0,.string ⟨#[]⟩,.slice (some ⟨w5.heap.size+1,0,none⟩) 2 2] 48 (0,0)):=by
  rw[hW]
  exact jL (jL (writ_row hrow _ _ _ _ _) _) _
 have hWrow:W.heap[w5.heap.size+1]? =some (.cells #[.int .i64 k1,.int .i64 k2,.int .i64 k3,.string k4,.slice A0 m0 q0,.int .i64 j1,.int .i64 j2,.int .i64 j3,.string j4,.slice A1 m1 q1] 48 (0,0)):=by
  have:=heap_alloc_new ((nest w5 g (.int .i64 5) (.int .i64 o) (.int .i64 0) (.string ⟨#[]⟩) (.slice (some ⟨w5.heap.size+1,0,none⟩) 2 2)).alloc (.cells #[.int .i64 j1,.int .i64 j2,.int .i64 j3,.string j4,.slice A1 m1 q1] 48)) (.cells #[.int .i64 k1,.int .i64 k2,.int .i64 k3,.string k4,.slice A0 m0 q0,.int .i64 j1,.int .i64 j2,.int .i64 j3,.string j4,.slice A1 m1 q1] 48)
  rw[zA,hns]at this
  rw[hW]
  exact this
 have hhold:∀ e,kN (w3.setCell ⟨b,1,none⟩ (.int .i64 (kk+1))).heap.size w5 e (.agg #[.int .i64 j1,.int .i64 j2,.int .i64 j3,.string j4,.slice A1 m1 q1])→Holds (w.heap.size+1) g W (.mk 5 o 0 bE [a,e]):=fun e he=>by
  obtain⟨args,rfl,hn,hs⟩:=exV_at hV
  obtain⟨args2,rfl,hn2,hs2⟩:=exV_at he
  rw[jp]at hs2
  refine⟨5,o,0,⟨#[]⟩,some ⟨w5.heap.size+1,0,none⟩,2,2,hWg,_,rfl,⟨by show (_:Int)≤0;decide,by show (0 :Int)≤_;decide⟩,?_⟩
  refine slE_at2 (w:=mask (aMask (w.heap.size+1) g) W) ((mask_in (aMask_no.2 ⟨by omega,by omega⟩)).trans hWrow) (by rw[hWs];omega) hn ?_ hn2 ?_
  · refine kf.mask (w':=W) hs (by omega) fun k hk hp=>⟨hp,?_⟩
    obtain⟨h1,h2⟩:=aMask_no.1 hp
    exact holdr k hk h2 (by omega)
  · refine kf.mask (w':=W) hs2 (by omega) fun k hk hp=>?_
    have h1:=kY.1 hp
    exact⟨aMask_no.2 ⟨by omega,by omega⟩,hold5 k hk (by omega)⟩
 refine⟨fun n hn=>?_,hCW.did⟩
 cases hx:pE q (lev+1) d r with
 | ok e r2=>
   have hx':((PR.ok () r).bind fun _ r=>pE q (lev+1) d r)=.ok e r2:=hx
   rw[hx']at hG hCW
   exact⟨q,_,.ok () r2,hn,hCW,hhold e hG,by rw[hT,hx];rfl⟩
 | bad r2=>
   have hx':((PR.ok () r).bind fun _ r=>pE q (lev+1) d r)=.bad r2:=hx
   rw[hx']at hG hCW
   obtain⟨e,he⟩:=hG
   exact⟨q,_,.bad r2,hn,hCW,hhold e he,by rw[hT,hx];rfl⟩
 | deep r2=>
   have hx':((PR.ok () r).bind fun _ r=>pE q (lev+1) d r)=.deep r2:=hx
   rw[hx']at hG hCW
   obtain⟨e,he⟩:=hG
   exact⟨q,_,.deep r2,hn,hCW,hhold e he,by rw[hT,hx];rfl⟩
 | out=>
   have hx':((PR.ok () r).bind fun _ r=>pE q (lev+1) d r)=.out:=hx
   rw[hx']at hCW
   exact absurd hCW.st id
theorem meas_lt {N A X B:Nat} (h1:A≤X) (h2:N-A<N-B):N-X<N-B:=by omega
theorem expr_at {b:Nat} {V:Value} {all r:List Tok} {w W:World} {q:Nat} {lev d:Int} (hD:q7 b V all w ((PR.ok () r).bind fun _ r=>pE q lev d r).un W) (hF:zg 1 r (pE q lev d r)) (hE:zw r):all.length-r.length≤yP b W:=by
 cases hx:pE q lev d r with
 | ok e r2=>
   have hx':((PR.ok () r).bind fun _ r=>pE q lev d r)=.ok e r2:=hx
   rw[hx']at hD
   rw[hx]at hF
   have hp:zY b V all r2 false false W:=hD.st
   have h1:=(show zL 1 r r2 from hF).2.2
   rw[qx hp]
   omega
 | bad r2=>
   have hx':((PR.ok () r).bind fun _ r=>pE q lev d r)=.bad r2:=hx
   rw[hx']at hD
   rw[hx]at hF
   have hp:zY b V all r2 true false W:=hD.st
   have h1:=(show zL 0 r r2 from hF).2.2
   rw[qx hp]
   omega
 | deep r2=>
   have hx':((PR.ok () r).bind fun _ r=>pE q lev d r)=.deep r2:=hx
   rw[hx']at hD
   rw[hx]at hF
   have hp:zY b V all r2 false true W:=hD.st
   have h1:=(show zL 0 r r2 from hF).2.2
   rw[qx hp]
   omega
 | out=>
   have hx':((PR.ok () r).bind fun _ r=>pE q lev d r)=.out:=hx
   rw[hx']at hD
   exact absurd hD.st id
theorem expr_lev {b:Nat} {V:Value} {all:List Tok} {n:Nat} {lev d:Int} (hl1:1≤lev) (hl2:lev≤10) (hE:∀ m,m≤n→CE b V all m (lev+1) d):CE b V all (n+1) lev d:=by
 intro w x h hn
 have e1:(x.bind fun _ r=>pE (n+1) lev d r)=(x.bind fun _ r=>pE n (lev+1) d r).bind fun a r=>pL n lev d a r:=by
  cases x with
  | ok u r=>show pE (n+1) lev d r=_;rw[pE,if_neg (by omega)];rfl
  | _=>rfl
 rw[e1]at hn ⊢
 have HC:=hid (jm.start h)
 have HNT:=hid hn
 have HN:=hid (zv hn)
 have HE:=hid hE
 have hbw:=h.lt
 clear h hn hE e1
 go_enter Tryd.func81,Tryd.ntmps81
 go_wp2_with (first
  | (go_at_call 81;(with_reducible refine((HE.out n (Nat.le_refl _)).call HC.out.st HN.out).mono ?_);rintro e w2 ⟨v,rfl,hD,hG⟩
     obtain⟨k1,k2,k3,k4,k5,k6,k7,rfl⟩:=q6 hG HN.out
     have hz1:=HC.out.size
     have HG:=hid hG
     replace HC:=hid (HC.out.step hD)
     have hz2:=HC.out.size
     clear hD hG))
 have HS:=hid (expr_start (n:=n) (lev:=lev) (d:=d) HC.out HG.out)
 have hb2:b<w2.heap.size:=HC.out.st.lt
 obtain⟨T,hT⟩:∃ T,((x.bind fun _ r=>pE n (lev+1) d r).bind fun a r=>pL n lev d a r)=T:=⟨_,rfl⟩
 rw[hT]at HS HNT
 have HTT:=hid hT
 clear hT
 go_loopw [8] (fun _ wr=>ExprRel b V all w T n lev d w2.heap.size wr) (fun _ wr=>all.length-yP b wr)
 case atStart=>exact HS.out
 case round=>
  obtain⟨m,a,y,hmn,hC,⟨k1,k2,k3,k4,A0,m0,q0,hrow,hV⟩,hTy⟩:=hrel
  replace HC:=hid hC
  have HV:=hid hV
  have HROW:=hid hrow
  have HTY:=hid hTy
  have hlt0:=hC.st.lt
  obtain⟨o,ho⟩:∃ o,opX lev y=o:=⟨_,rfl⟩
  have HO:=hid ho
  have hne:w2.heap.size≠b:=by omega
  have hzr:=HC.out.size
  have hgr:w2.heap.size<wr.heap.size:=(Array.getElem?_eq_some_iff.1 hrow).1
  clear hC hV hTy ho hrow
  by_cases ho0:o=0
  · subst ho0
    go_wp2_with (first
     | (go_at_call 87;(with_reducible refine(op_any HC.out.st lev 0 HO.out).mono ?_);rintro e w3 ⟨rfl,hD⟩
        have HD:=hid hD
        have hrow3:=qe hD.off hgr hne HROW.out
        obtain⟨⟨p0,p1,p2,p3,p4⟩,pz⟩:=xE hrow3
        replace HC:=hid (HC.out.step hD)
        clear hD hrow3
        obtain⟨⟨c0,c1,c2,c3,c4⟩,fz⟩:=HC.out.own))
    obtain⟨f0,f1,f2,f3,f4⟩:=HC.out.read (.int .i64 k1) (.int .i64 k2) (.int .i64 k3) (.string k4) (.slice A0 m0 q0)
    refine bodyPost_ret (v:=.agg #[.int .i64 k1,.int .i64 k2,.int .i64 k3,.string k4,.slice A0 m0 q0]) (by simp[results,Tryd.results81,go_sem,f0,f1,f2,f3,f4]) rfl ?_
    rw[HTT.out]
    obtain⟨h1,h2⟩:=expr_end HO.out HTY.out HNT.out
    exact HC.out.fin h1 (h2 _ (holds_end HV.out HD.out hlt0 (by omega)))
  · obtain⟨r,rfl,hro⟩:=opX_ok HO.out ho0
    obtain⟨q,rfl⟩:∃ q,m=q+1:=by
     cases m with
     | zero=>have h1:=HTY.out;have h2:=HNT.out;rw[h1]at h2;exact absurd (show zG (pL 0 lev d a r) from h2) (by rw[pL];exact id)
     | succ q=>exact⟨q,rfl⟩
    have hT2:T=(pE q (lev+1) d r.tail).bind fun e r=>pL q lev d (.mk 5 o 0 bE [a,e]) r:=by
     rw[HTY.out]
     show pL (q+1) lev d a r=_
     rw[pL,hro,if_neg ho0]
    obtain⟨hat,hrl,hal,hen,hrp⟩:=xq HC.out.did
    have hsg:∃ s,z9 s r=true:=yw (lev:=lev) (ops:=um) (by show opAt lev r≠0;rw[hro];exact ho0)
    have hk3:yQ r≠3:=by obtain⟨s,hs⟩:=hsg;rw[(vd hs).1];decide
    have HAT:=hid hat
    have HEN:=hid (hen.tail hk3)
    have HK3:=hid hk3
    replace HTY:=hid hT2
    have HN2:=hid (show zG ((PR.ok () r.tail).bind fun _ r=>pE q (lev+1) d r) by have h2:=HNT.out;rw[hT2]at h2;exact zv h2)
    obtain⟨kk,hkk⟩:∃ kk:Int,((all.length-r.length:Nat):Int)=kk:=⟨_,rfl⟩
    have hk0:0≤kk∧kk≤1000000:=by omega
    obtain⟨hk00,hk01⟩:=hk0
    have HKK:=hid hkk
    have ho1:(o == 0)=false:=by simpa using ho0
    clear hro hT2 hat hen hsg hk3 ho0 hkk
    go_wp2_with (first
     | (go_at_call 87;(with_reducible refine(op_any HC.out.st lev o HO.out).mono ?_);rintro e w3 ⟨rfl,hD⟩
        have HD:=hid hD
        have hrow3:=qe hD.off hgr hne HROW.out
        replace HC:=hid (HC.out.step hD)
        have hN:=hid (cur_next HC.out HK3.out HKK.out)
        have HROW3:=hid (row_off hrow3 hne (.int .i64 (kk+1)))
        obtain⟨b1,fb⟩:=cur_at HC.out HKK.out
        clear hD hrow3)
     | (go_at_call 81;(with_reducible refine((HE.out q (by omega)).call hN.out.st HN2.out).mono ?_);rintro e w5 ⟨v,rfl,hD5,hG⟩
        obtain⟨j1,j2,j3,j4,A1,m1,q1,rfl⟩:=q6 hG HN2.out
        have HG:=hid hG
        have hgs:w2.heap.size<(w3.setCell ⟨b,1,none⟩ (.int .i64 (kk+1))).heap.size:=(Array.getElem?_eq_some_iff.1 HROW3.out).1
        have hrow5:=qe hD5.off hgs hne HROW3.out
        have HROW5:=hid hrow5
        obtain⟨⟨p0,p1,p2,p3,p4⟩,pz⟩:=xE hrow5
        have HD5:=hid hD5
        replace HC:=hid (hN.out.step hD5)
        have hg5:w2.heap.size<w5.heap.size:=(Array.getElem?_eq_some_iff.1 hrow5).1
        clear hD5 hG hrow5))
    have HX:=hid (expr_round (lev:=lev) (d:=d) HV.out HD.out HD5.out HC.out HROW5.out HG.out HTY.out (by omega) (by omega) hne hbw (by omega))
    have hfit:=qZ (n:=q) (lev:=lev+1) (d:=d) HEN.out
    go_roundw
    case rel=>exact(HX.out.1 n (by omega))
    case measure=>
     have h1:=expr_at (HX.out.2) hfit HEN.out
     have h2:=HAT.out
     have h3:r.tail.length+1=r.length:=by rw[List.length_tail];omega
     clear HX hfit
     exact meas_lt h1 (by omega)
def CO (b:Nat) (V:Value) (all:List Tok) (lev d:Int):Prop:=∀ (w:World) (x:PR Unit),jS b V all x w→zm x=true→
 Calls Tryd.prog 81 #[.pointer (some ⟨b,0,none⟩),.int .i64 lev,.int .i64 d] w (qM b V all w (x.bind fun _ _=>(.out:PR Ex)) (kN w.heap.size))
theorem CO.call {b:Nat} {V:Value} {all:List Tok} {lev d:Int} (h:CO b V all lev d) {w:World} {x:PR Unit} (hs:jS b V all x w) (ho:zm x=true):
 Calls Tryd.prog 81 #[.pointer (some ⟨b,0,none⟩),.int .i64 lev,.int .i64 d] w (qM b V all w (x.bind fun _ _=>(.out:PR Ex)) (kN w.heap.size)):=h w x hs ho
theorem over_bind {α:Type} {x:PR Unit} (ho:zm x=true) (f g:Unit→List Tok→PR α):x.bind f=x.bind g:=by
 cases x with
 | ok u r=>cases ho
 | _=>rfl
theorem over_ends {α:Type} {b:Nat} {V:Value} {all:List Tok} {x:PR Unit} {w:World} (h:jS b V all x w) (ho:zm x=true) (f:Unit→List Tok→PR α):zG (x.bind f):=by
 cases x with
 | ok u r=>cases ho
 | bad r=>trivial
 | deep r=>trivial
 | out=>exact absurd h id
theorem over_un {α:Type} {x:PR Unit} (ho:zm x=true) (f:Unit→List Tok→PR α):(x.bind f).un=x:=by
 cases x with
 | ok u r=>cases ho
 | _=>rfl
theorem over_opX {lev:Int} {x:PR Unit} (ho:zm x=true):opX lev x=0:=by
 cases x with
 | ok u r=>cases ho
 | _=>rfl
theorem over_got {α:Type} {x:PR Unit} (ho:zm x=true) (f:Unit→List Tok→PR α) {P:α→Prop} {a:α} (h:P a):jE (x.bind f) P:=by
 cases x with
 | ok u r=>cases ho
 | bad r=>exact⟨a,h⟩
 | deep r=>exact⟨a,h⟩
 | out=>trivial
theorem unary_over {b:Nat} {V:Value} {all:List Tok} {x:PR Unit} {w:World} (h:jS b V all x w) (ho:zm x=true) {d:Int} (hd:0≤d∧d≤1000) (f:Unit→List Tok→PR Ex):
 Calls Tryd.prog 86 #[.pointer (some ⟨b,0,none⟩),.int .i64 d] w (qM b V all w (x.bind f) (kN w.heap.size)):=by
 have hg:∀ w',q7 b V all w x w'→qM b V all w (x.bind f) (kN w.heap.size) (.returned ex0V) w':=fun w' hD=>⟨_,rfl,(over_un ho f).symm ▸ hD,over_got ho f (ex0_fr _ _)⟩
 by_cases hd2:d≤100
 · exact(unary_none h hd ho hd2).mono fun e w' ⟨he,hD⟩=>he ▸ hg w' hD
 · cases x with
   | ok u r=>cases ho
   | bad r=>exact(unary_bad (r:=r) rfl h hd rfl (by omega)).mono fun e w' ⟨he,hD⟩=>he ▸ hg w' hD
   | deep r=>exact(unary_deep (dp:=true) h hd (by omega)).mono fun e w' ⟨he,hD⟩=>he ▸ hg w' hD
   | out=>exact absurd h id
theorem over_top {b:Nat} {V:Value} {all:List Tok} {d:Int} (hd:0≤d∧d≤1000):CO b V all 11 d:=by
 intro w x h ho
 have HC:=hid (jm.start h)
 have HO:=hid ho
 have HEN:=hid (over_ends h ho fun _ _=>(.out:PR Ex))
 have HD:=hid hd
 clear h ho hd
 go_enter Tryd.func81,Tryd.ntmps81
 go_wp2_with (first
  | (go_at_call 86;(with_reducible refine(unary_over HC.out.st HO.out HD.out fun _ _=>(.out:PR Ex)).mono ?_);rintro e w2 ⟨v,rfl,hD,hG⟩
     obtain⟨k1,k2,k3,k4,k5,k6,k7,rfl⟩:=q6 hG HEN.out
     have hz1:=HC.out.size
     have HG:=hid hG
     replace HC:=hid (HC.out.step hD)
     clear hD hG
     obtain⟨⟨c0,c1,c2,c3,c4⟩,fz⟩:=HC.out.own))
 obtain⟨f0,f1,f2,f3,f4⟩:=HC.out.read (.int .i64 k1) (.int .i64 k2) (.int .i64 k3) (.string k4) (.slice k5 k6 k7)
 refine bodyPost_ret (v:=.agg #[.int .i64 k1,.int .i64 k2,.int .i64 k3,.string k4,.slice k5 k6 k7]) (by simp[results,Tryd.results81,go_sem,f0,f1,f2,f3,f4]) rfl ?_
 exact HC.out.fin rfl (HG.out.imp fun a ha=>kN.writ ha hz1 _ _ _ _ _)
theorem over_lev {b:Nat} {V:Value} {all:List Tok} {lev d:Int} (hl1:1≤lev) (hl2:lev≤10) (hE:CO b V all (lev+1) d):CO b V all lev d:=by
 intro w x h ho
 have HC:=hid (jm.start h)
 have HO:=hid ho
 have HEN:=hid (over_ends h ho fun _ _=>(.out:PR Ex))
 have HE:=hid hE
 have hbw:=h.lt
 clear h ho hE
 go_enter Tryd.func81,Tryd.ntmps81
 go_wp2_with (first
  | (go_at_call 81;(with_reducible refine(HE.out.call HC.out.st HO.out).mono ?_);rintro e w2 ⟨v,rfl,hD,hG⟩
     obtain⟨k1,k2,k3,k4,k5,k6,k7,rfl⟩:=q6 hG HEN.out
     have hz1:=HC.out.size
     have HG:=hid hG
     rw[over_un HO.out]at hD
     replace HC:=hid (HC.out.step hD)
     have hz2:=HC.out.size
     clear hD hG))
 have hb2:b<w2.heap.size:=HC.out.st.lt
 have HH:=hid (show ∃ a,jm b V all w x (w2.alloc (.cells #[.int .i64 k1,.int .i64 k2,.int .i64 k3,.string k4,.slice k5 k6 k7] 48))∧Holds (w.heap.size+1) w2.heap.size (w2.alloc (.cells #[.int .i64 k1,.int .i64 k2,.int .i64 k3,.string k4,.slice k5 k6 k7] 48)) a by
  obtain⟨a,ha⟩:=HG.out.some HEN.out
  rw[zA]at ha
  exact⟨a,HC.out.alloc _,vG ha⟩)
 go_loopw [8] (fun _ wr=>∃ a,jm b V all w x wr∧Holds (w.heap.size+1) w2.heap.size wr a) (fun _ wr=>0)
 case atStart=>exact HH.out
 case round=>
  obtain⟨a,hC,⟨k1,k2,k3,k4,A0,m0,q0,hrow,hV⟩⟩:=hrel
  replace HC:=hid hC
  have HV:=hid hV
  have HROW:=hid hrow
  have hlt0:=hC.st.lt
  have hne:w2.heap.size≠b:=by omega
  have hzr:=HC.out.size
  have hgr:w2.heap.size<wr.heap.size:=(Array.getElem?_eq_some_iff.1 hrow).1
  clear hC hV hrow
  go_wp2_with (first
   | (go_at_call 87;(with_reducible refine(op_any HC.out.st lev 0 (over_opX HO.out)).mono ?_);rintro e w3 ⟨rfl,hD⟩
      have HD:=hid hD
      have hrow3:=qe hD.off hgr hne HROW.out
      obtain⟨⟨p0,p1,p2,p3,p4⟩,pz⟩:=xE hrow3
      replace HC:=hid (HC.out.step hD)
      clear hD hrow3
      obtain⟨⟨c0,c1,c2,c3,c4⟩,fz⟩:=HC.out.own))
  obtain⟨f0,f1,f2,f3,f4⟩:=HC.out.read (.int .i64 k1) (.int .i64 k2) (.int .i64 k3) (.string k4) (.slice A0 m0 q0)
  refine bodyPost_ret (v:=.agg #[.int .i64 k1,.int .i64 k2,.int .i64 k3,.string k4,.slice A0 m0 q0]) (by simp[results,Tryd.results81,go_sem,f0,f1,f2,f3,f4]) rfl ?_
  exact HC.out.fin (over_un HO.out _) (over_got HO.out _ (holds_end HV.out HD.out hlt0 (by omega)))
theorem over_expr {b:Nat} {V:Value} {all:List Tok} {d:Int} (hd:0≤d∧d≤1000):∀ (k:Nat) (lev:Int),lev=11-k→1≤lev→CO b V all lev d
 | 0,lev,e,_=>by
   obtain rfl:lev=11:=by omega
   exact over_top hd
 | k+1,lev,e,h1=>over_lev h1 (by omega) (over_expr hd k (lev+1) (by omega) (by omega))
theorem ce_over {b:Nat} {V:Value} {all:List Tok} {n:Nat} {lev d:Int} (hd:0≤d∧d≤1000) (h1:1≤lev) (h2:lev≤11) {w:World} {x:PR Unit} (h:jS b V all x w) (ho:zm x=true):
 Calls Tryd.prog 81 #[.pointer (some ⟨b,0,none⟩),.int .i64 lev,.int .i64 d] w (qM b V all w (x.bind fun _ r=>pE n lev d r) (kN w.heap.size)):=by
 rw[over_bind ho (fun _ r=>pE n lev d r) fun _ _=>.out]
 exact over_expr hd (11-lev).toNat lev (by omega) h1 w x h ho
theorem expr_all (b:Nat) (V:Value) (all:List Tok):∀ (n:Nat),∀ m,m≤n→(∀ lev d:Int,1≤lev→lev≤11→0≤d→d≤101→CE b V all m lev d)∧(∀ d:Int,0≤d→d≤101→CU b V all m d)∧(∀ d:Int,0≤d→d≤100→CP b V all m d)∧(∀ d:Int,0≤d→d≤101→CA b V all m d)
 | 0,m,hm=>by
   obtain rfl:m=0:=by omega
   refine⟨fun lev d h1 h2 h3 h4 w x h hn=>?_,fun d h3 h4 w x h hn=>?_,fun d h3 h4 w x h hn=>?_,fun d h3 h4 w x h hn=>?_⟩
   · cases ho:zm x with
     | true=>exact ce_over ⟨h3,by omega⟩ h1 h2 h ho
     | false=>
       cases x with
       | ok u r=>exact absurd (show zG (pE 0 lev d r) from hn) (by rw[pE];exact id)
       | bad r=>cases ho
       | deep r=>cases ho
       | out=>exact absurd h id
   · cases ho:zm x with
     | true=>exact unary_over h ho ⟨h3,by omega⟩ _
     | false=>
       cases x with
       | ok u r=>exact absurd (show zG (pU 0 d r) from hn) (by rw[pU];exact id)
       | bad r=>cases ho
       | deep r=>cases ho
       | out=>exact absurd h id
   · cases ho:zm x with
     | true=>exact(vx h ho d).mono fun e w' ⟨he,hD⟩=>he ▸ un_over ho hD ex0 (ex0_fr _ _)
     | false=>
       cases x with
       | ok u r=>exact absurd (show zG (pP 0 d r) from hn) (by rw[pP];exact id)
       | bad r=>cases ho
       | deep r=>cases ho
       | out=>exact absurd h id
   · cases ho:zm x with
     | true=>exact(args_over h ho d).mono fun e w' ⟨he,hD⟩=>he ▸ un_over ho hD [] (vC _ _)
     | false=>
       cases x with
       | ok u r=>exact absurd (show zG (pA 0 d r) from hn) (by rw[pA];exact id)
       | bad r=>cases ho
       | deep r=>cases ho
       | out=>exact absurd h id
 | n+1,m,hm=>by
   have ih:=expr_all b V all n
   by_cases hmn:m≤n
   · exact ih m hmn
   · obtain rfl:m=n+1:=by omega
     have hCE:∀ q,q≤n→∀ lev d:Int,1≤lev→lev≤11→0≤d→d≤101→CE b V all q lev d:=fun q hq=>(ih q hq).1
     have hCU:∀ q,q≤n→∀ d:Int,0≤d→d≤101→CU b V all q d:=fun q hq=>(ih q hq).2.1
     have hCP:∀ q,q≤n→∀ d:Int,0≤d→d≤100→CP b V all q d:=fun q hq=>(ih q hq).2.2.1
     have hCA:∀ q,q≤n→∀ d:Int,0≤d→d≤101→CA b V all q d:=fun q hq=>(ih q hq).2.2.2
     refine⟨fun lev d h1 h2 h3 h4=>?_,fun d h3 h4=>?_,fun d h3 h4=>?_,fun d h3 h4=>?_⟩
     · by_cases h11:lev=11
       · subst h11
         exact expr_top (hCU n (Nat.le_refl _) d h3 h4)
       · exact expr_lev h1 (by omega) fun q hq=>hCE q hq (lev+1) d (by omega) (by omega) h3 h4
     · exact unary_any (fun h=>hCE n (Nat.le_refl _) 1 (d+1) (by omega) (by omega) (by omega) (by omega)) (fun h=>hCU n (Nat.le_refl _) (d+1) (by omega) (by omega)) (fun h=>hCP n (Nat.le_refl _) d h3 h) ⟨h3,by omega⟩
     · exact prim_any (fun q hq=>hCE q hq 1 (d+1) (by omega) (by omega) (by omega) (by omega)) (fun q hq=>hCA q hq (d+1) (by omega) (by omega)) ⟨h3,by omega⟩
     · exact args_any fun q hq=>hCE q hq 1 d (by omega) (by omega) h3 h4
theorem y6 {b:Nat} {V:Value} {all:List Tok} {n:Nat} {d:Int} (h1:0≤d) (h2:d≤101):CE b V all n 1 d:=(expr_all b V all n n (Nat.le_refl _)).1 1 d (by decide) (by decide) h1 h2
theorem args_all {b:Nat} {V:Value} {all:List Tok} {n:Nat} {d:Int} (h1:0≤d) (h2:d≤101):CA b V all n d:=(expr_all b V all n n (Nat.le_refl _)).2.2.2 d h1 h2
abbrev vz:Obj:=.cells #[.int .i64 0,.int .i64 0,.string ⟨#[]⟩,.slice none 0 0,.slice none 0 0,.slice none 0 0] 50
abbrev st0V:Value:=.agg #[.int .i64 0,.int .i64 0,.string ⟨#[]⟩,.slice none 0 0,.slice none 0 0,.slice none 0 0]
def u7 (L:Nat) (w:World) (a:St) (v:Value):Prop:=
 match a with
 | .mk k ty name args thn els=>∃ v3 v4 v5,v=.agg #[.int .i64 k,.int .i64 ty,.string name,v3,v4,v5]∧jK L w args v3∧xQ L w thn v4∧xQ L w els v5
theorem u7.keep {L M:Nat} {w w':World} {a:St} {v:Value} (h:u7 L w a v) (k:zM L w w') (hM:M≤L):u7 M w' a v:=by
 obtain⟨kk,ty,name,args,thn,els⟩:=a
 obtain⟨v3,v4,v5,hv,h3,h4,h5⟩:=h
 exact⟨v3,v4,v5,hv,h3.keep k hM,h4.keep k hM,h5.keep k hM⟩
theorem u7.form {L:Nat} {w:World} {a:St} {v:Value} (h:u7 L w a v):∃ k t s A3 m3 c3 A4 m4 c4 A5 m5 c5,v=.agg #[.int .i64 k,.int .i64 t,.string s,.slice A3 m3 c3,.slice A4 m4 c4,.slice A5 m5 c5]:=by
 obtain⟨kk,ty,name,args,thn,els⟩:=a
 obtain⟨v3,v4,v5,hv,h3,h4,h5⟩:=h
 obtain⟨A3,c3,rfl,_⟩:=h3.form
 obtain⟨A4,c4,rfl,_⟩:=h4.form
 obtain⟨A5,c5,rfl,_⟩:=h5.form
 exact⟨_,_,_,_,_,_,_,_,_,_,_,_,hv⟩
theorem gots_form {L:Nat} {w:World} {x:PR St} {v:Value} (h:jE x fun a=>u7 L w a v) (he:zG x):∃ k t s A3 m3 c3 A4 m4 c4 A5 m5 c5,v=.agg #[.int .i64 k,.int .i64 t,.string s,.slice A3 m3 c3,.slice A4 m4 c4,.slice A5 m5 c5]:=by
 obtain⟨a,ha⟩:=h.some he
 exact ha.form
theorem xF {L:Nat} {w:World} {x:PR (List St)} {v:Value} (h:jE x fun a=>xQ L w a v) (he:zG x):∃ A m c,v=.slice A m c:=by
 obtain⟨a,ha⟩:=h.some he
 obtain⟨A,c,hv,_⟩:=ha.form
 exact⟨A,_,c,hv⟩
theorem frEs_nil (L:Nat) (w:World):jK L w [] (.slice none 0 0):=vC _ _
theorem qV (L:Nat) (w:World):xQ L w [] (.slice none 0 0):=slS_nil _ _
theorem yJ {b:Nat} {V:Value} {all:List Tok} {x:PR Unit} {w:World} (h:jS b V all x w) (k:Int) (hk3:k≠3):
 Calls Tryd.prog 42 #[.pointer (some ⟨b,0,none⟩),.int .i64 k] w fun e w'=>∃ s,e=.returned (.string s)∧q7 b V all w (x.bind fun _ r=>zy k r).un w'∧jE (x.bind fun _ r=>zy k r) fun a=>a=s:=by
 cases x with
 | ok u r=>
   refine(text_live h k hk3).mono fun e w' ⟨v,he,hD,hG⟩=>?_
   show ∃ s,_∧q7 b V all w (zy k r).un w'∧jE (zy k r) _
   unfold zy at hD hG ⊢
   by_cases hk:yQ r=k
   · rw[if_pos hk]at hD hG ⊢
     exact⟨_,by rw[he,show v=_ from hG],hD,rfl⟩
   · rw[if_neg hk]at hD hG ⊢
     obtain⟨a,ha⟩:=hG
     exact⟨a,by rw[he,show v=_ from ha],hD,a,rfl⟩
 | bad r=>exact(text_over h rfl k).mono fun e w' ⟨he,hD⟩=>⟨_,he,hD,_,rfl⟩
 | deep r=>exact(text_over h rfl k).mono fun e w' ⟨he,hD⟩=>⟨_,he,hD,_,rfl⟩
 | out=>exact absurd h id
def OneF (L:Nat) (w:World) (a:Ex) (v:Value):Prop:=jK L w [a] v
theorem pI_assoc (n:Nat) (x:PR Unit):(x.bind fun _ r=>pI n r)=((x.bind fun _ r=>zI [40] r).bind fun _ r=>pE n 1 1 r).bind fun e r=>(zI [41] r).bind fun _ r=>.ok e r:=by
 rw[zW,zW]
 rfl
theorem uR {b:Nat} {V:Value} {all:List Tok} {n:Nat} {x:PR Unit} {w:World} (h:jS b V all x w) (hn:zG (x.bind fun _ r=>pI n r)):
 Calls Tryd.prog 82 #[.pointer (some ⟨b,0,none⟩)] w (qM b V all w (x.bind fun _ r=>pI n r) (OneF w.heap.size)):=by
 rw[pI_assoc]at hn ⊢
 have HN:=hid (zv hn)
 have HD:=hid (show q7 b V all w x w from⟨h,OffB.refl _ _ _⟩)
 have hbw:=h.lt
 have HE:=hid (y6 (b:=b) (V:=V) (all:=all) (n:=n) (d:=1) (by decide) (by decide))
 clear h hn
 go_enter Tryd.func82,Tryd.ntmps82
 go_wp2_with (first
  | (go_at_call 45;(with_reducible refine(zb HD.out.st ⟨#[40]⟩).mono ?_);rintro e w1 ⟨rfl,hD⟩
     replace HD:=hid (show q7 b V all w (x.bind fun _ r=>zI [40] r) w1 from HD.out.after hD)
     have hz1:=HD.out.off.size
     clear hD)
  | (go_at_call 81;(with_reducible refine(HE.out.call HD.out.st HN.out).mono ?_);rintro e w2 ⟨v,rfl,hD,hG⟩
     obtain⟨k1,k2,k3,k4,k5,k6,k7,rfl⟩:=q6 hG HN.out
     have HG:=hid hG
     have hb1:=HD.out.st.lt
     replace HD:=hid (HD.out.after hD)
     have hb2:w2.heap.size≠b:=by have:=HD.out.st.lt;omega
     have hz2:=HD.out.off.size
     clear hD hG)
  | (go_at_call 45;(with_reducible refine(zb (HD.out.alloc _).st ⟨#[41]⟩).mono ?_);rintro e w3 ⟨rfl,hD⟩
     have HK:=hid ((zM.of_below (L:=w1.heap.size) ((Below.refl _ _).alloc (Nat.le_refl _) _)).trans (zM.did hD hb1))
     obtain⟨p3,r3⟩:=off_own hD.off (k:=w2.heap.size) (by simp) hb2
     replace HD:=hid ((HD.out.alloc _).after hD)
     have hz3:=HD.out.off.size
     clear hD))
 go_ret
 refine⟨_,rfl,?_,jE.bind HG.out (fun a r _ ha=>yn (vU (kN.keep ha HK.out (Nat.le_refl _)) hz1 hz3 rfl)) fun a ha=>⟨a,vU (kN.keep ha HK.out (Nat.le_refl _)) hz1 hz3 rfl⟩⟩
 rw[jP]
 simp only[xD]
 rw[←bind_un]
 exact HD.out.alloc _
abbrev u9 (W:World) (g:Nat) (c0 c1 c2 c3 c4 c5:Value):World:=((((((W.setCell ⟨g,0,none⟩ c0).setCell ⟨g,1,none⟩ c1).setCell ⟨g,2,none⟩ c2).setCell ⟨g,3,none⟩ c3).setCell ⟨g,4,none⟩ c4).setCell ⟨g,5,none⟩ c5)
theorem xr (W:World) (g:Nat) (c0 c1 c2 c3 c4 c5:Value):(u9 W g c0 c1 c2 c3 c4 c5).heap.size=W.heap.size:=by simp[u9]
theorem nest6_row {W:World} {g:Nat} {d0 d1 d2 d3 d4 d5:Value} {T:TypeId} {fr:Nat × Nat} (hb:W.heap[g]? =some (.cells #[d0,d1,d2,d3,d4,d5] T fr)) (c0 c1 c2 c3 c4 c5:Value):(u9 W g c0 c1 c2 c3 c4 c5).heap[g]? =some (.cells #[c0,c1,c2,c3,c4,c5] T fr):=
 Lib.heap_setCell_same (Lib.heap_setCell_same (Lib.heap_setCell_same (Lib.heap_setCell_same (Lib.heap_setCell_same (Lib.heap_setCell_same hb c0) c1) c2) c3) c4) c5
theorem nest6_other {W:World} {g k:Nat} (hk:k≠g) (c0 c1 c2 c3 c4 c5:Value):(u9 W g c0 c1 c2 c3 c4 c5).heap[k]? =W.heap[k]?:=by
 rw[Below.heap_setCell _ _ _ _ (by show k≠g;exact hk),Below.heap_setCell _ _ _ _ (by show k≠g;exact hk),Below.heap_setCell _ _ _ _ (by show k≠g;exact hk),Below.heap_setCell _ _ _ _ (by show k≠g;exact hk),Below.heap_setCell _ _ _ _ (by show k≠g;exact hk),Below.heap_setCell _ _ _ _ (by show k≠g;exact hk)]
theorem zM.nest6 {L g:Nat} {w:World} (hg:g<L) (c0 c1 c2 c3 c4 c5:Value):zM L w (u9 w g c0 c1 c2 c3 c4 c5):=
 (((((zM.set hg 0 c0).trans (zM.set hg 1 c1)).trans (zM.set hg 2 c2)).trans (zM.set hg 3 c3)).trans (zM.set hg 4 c4)).trans (zM.set hg 5 c5)
theorem six_cells {W:World} {g:Nat} {c0 c1 c2 c3 c4 c5:Value} {T:TypeId} (h:W.heap[g]? =some (.cells #[c0,c1,c2,c3,c4,c5] T (0,0))):
 (W.cell? ⟨g,0,none⟩=some c0∧W.cell? ⟨g,1,none⟩=some c1∧W.cell? ⟨g,2,none⟩=some c2∧W.cell? ⟨g,3,none⟩=some c3∧W.cell? ⟨g,4,none⟩=some c4∧W.cell? ⟨g,5,none⟩=some c5)∧∀ o,W.frozen? ⟨g,o,none⟩=false:=by
 refine⟨⟨(Lib.cell_of_heap h 0).trans rfl,(Lib.cell_of_heap h 1).trans rfl,(Lib.cell_of_heap h 2).trans rfl,(Lib.cell_of_heap h 3).trans rfl,(Lib.cell_of_heap h 4).trans rfl,(Lib.cell_of_heap h 5).trans rfl⟩,fun o=>?_⟩
 simp[World.frozen?,h]
def jF (b:Nat) (V:Value) (all:List Tok) (w:World) (x:PR Unit) (W:World):Prop:=q7 b V all w x W∧W.heap[w.heap.size]? =some vz∧TokH b V all w∧b<w.heap.size
section
variable {b:Nat} {V:Value} {all:List Tok} {w W W':World} {x y:PR Unit}
theorem jF.start (h:jS b V all x w):jF b V all w x (w.alloc vz):=
 ⟨⟨h.below ((Below.refl _ _).alloc (Nat.le_refl _) _),OffB.of_below ((Below.refl _ _).alloc (Nat.le_refl _) _) h.lt⟩,heap_alloc_new w vz,h.tok,h.lt⟩
theorem jF.did (h:jF b V all w x W):q7 b V all w x W:=h.1
theorem jF.st (h:jF b V all w x W):jS b V all x W:=h.1.1
theorem jF.size (h:jF b V all w x W):w.heap.size<W.heap.size:=(Array.getElem?_eq_some_iff.1 h.2.1).1
theorem jF.ne (h:jF b V all w x W):w.heap.size≠b:=by have:=h.2.2.2;omega
theorem jF.lt (h:jF b V all w x W):b<w.heap.size:=h.2.2.2
theorem jF.tok (h:jF b V all w x W):TokH b V all w:=h.2.2.1
theorem jF.step (h:jF b V all w x W) (g:q7 b V all W y W'):jF b V all w y W':=⟨h.1.after g,qe g.off h.size h.ne h.2.1,h.2.2⟩
theorem jF.alloc (h:jF b V all w x W) (o:Obj):jF b V all w x (W.alloc o):=⟨h.1.alloc o,jL h.2.1 o,h.2.2⟩
theorem jF.own (h:jF b V all w x W):(W.cell? ⟨w.heap.size,0,none⟩=some (.int .i64 0)∧W.cell? ⟨w.heap.size,1,none⟩=some (.int .i64 0)∧W.cell? ⟨w.heap.size,2,none⟩=some (.string ⟨#[]⟩)∧
 W.cell? ⟨w.heap.size,3,none⟩=some (.slice none 0 0)∧W.cell? ⟨w.heap.size,4,none⟩=some (.slice none 0 0)∧W.cell? ⟨w.heap.size,5,none⟩=some (.slice none 0 0))∧∀ o,W.frozen? ⟨w.heap.size,o,none⟩=false:=six_cells h.2.1
theorem jF.set (h:jF b V all w x W) {g:Nat} (hg:w.heap.size<g) (i:Nat) (u:Value):jF b V all w x (W.setCell ⟨g,i,none⟩ u):=
 ⟨h.1.set h.2.2.1 (by omega) (by have:=h.2.2.2;omega) i u,(Below.heap_setCell W _ u _ (by show w.heap.size≠g;omega)).trans h.2.1,h.2.2⟩
theorem q7.nest6 (h:q7 b V all w x W) (ht:TokH b V all w) {g:Nat} (hg:w.heap.size≤g) (hb:g≠b) (c0 c1 c2 c3 c4 c5:Value):q7 b V all w x (u9 W g c0 c1 c2 c3 c4 c5):=
 (((((h.set ht hg hb 0 c0).set ht hg hb 1 c1).set ht hg hb 2 c2).set ht hg hb 3 c3).set ht hg hb 4 c4).set ht hg hb 5 c5
theorem jF.fin (h:jF b V all w y W) {X:PR St} (hy:X.un=y) {c0 c1 c2 c3 c4 c5:Value} (hG:jE X fun a=>u7 w.heap.size (u9 W w.heap.size c0 c1 c2 c3 c4 c5) a (.agg #[c0,c1,c2,c3,c4,c5])):
 qM b V all w X (u7 w.heap.size) (.returned (.agg #[c0,c1,c2,c3,c4,c5])) (u9 W w.heap.size c0 c1 c2 c3 c4 c5):=
 ⟨_,rfl,hy ▸ h.1.nest6 h.2.2.1 (Nat.le_refl _) h.ne _ _ _ _ _ _,hG⟩
theorem jF.fina (h:jF b V all w y W) {X:PR St} (hy:X.un=y) {o:Obj} {c0 c1 c2 c3 c4 c5:Value} (hG:jE X fun a=>u7 w.heap.size ((_root_.Go.Proofs.YtndgkfkieogplaaDoor.u9 W w.heap.size c0 c1 c2 c3 c4 c5).alloc o) a (.agg #[c0,c1,c2,c3,c4,c5])):
 qM b V all w X (u7 w.heap.size) (.returned (.agg #[c0,c1,c2,c3,c4,c5])) ((_root_.Go.Proofs.YtndgkfkieogplaaDoor.u9 W w.heap.size c0 c1 c2 c3 c4 c5).alloc o):=
 ⟨_,rfl,hy ▸ (h.1.nest6 h.2.2.1 (Nat.le_refl _) h.ne _ _ _ _ _ _).alloc o,hG⟩
theorem jF.read (h:jF b V all w x W) (c0 c1 c2 c3 c4 c5:Value):(((((((W.setCell ⟨w.heap.size,0,none⟩ c0).setCell ⟨w.heap.size,1,none⟩ c1).setCell ⟨w.heap.size,2,none⟩ c2).setCell ⟨w.heap.size,3,none⟩ c3).setCell ⟨w.heap.size,4,none⟩ c4).setCell ⟨w.heap.size,5,none⟩ c5)).cell? ⟨w.heap.size,0,none⟩=some c0∧(((((((W.setCell ⟨w.heap.size,0,none⟩ c0).setCell ⟨w.heap.size,1,none⟩ c1).setCell ⟨w.heap.size,2,none⟩ c2).setCell ⟨w.heap.size,3,none⟩ c3).setCell ⟨w.heap.size,4,none⟩ c4).setCell ⟨w.heap.size,5,none⟩ c5)).cell? ⟨w.heap.size,1,none⟩=some c1∧(((((((W.setCell ⟨w.heap.size,0,none⟩ c0).setCell ⟨w.heap.size,1,none⟩ c1).setCell ⟨w.heap.size,2,none⟩ c2).setCell ⟨w.heap.size,3,none⟩ c3).setCell ⟨w.heap.size,4,none⟩ c4).setCell ⟨w.heap.size,5,none⟩ c5)).cell? ⟨w.heap.size,2,none⟩=some c2∧(((((((W.setCell ⟨w.heap.size,0,none⟩ c0).setCell ⟨w.heap.size,1,none⟩ c1).setCell ⟨w.heap.size,2,none⟩ c2).setCell ⟨w.heap.size,3,none⟩ c3).setCell ⟨w.heap.size,4,none⟩ c4).setCell ⟨w.heap.size,5,none⟩ c5)).cell? ⟨w.heap.size,3,none⟩=some c3∧(((((((W.setCell ⟨w.heap.size,0,none⟩ c0).setCell ⟨w.heap.size,1,none⟩ c1).setCell ⟨w.heap.size,2,none⟩ c2).setCell ⟨w.heap.size,3,none⟩ c3).setCell ⟨w.heap.size,4,none⟩ c4).setCell ⟨w.heap.size,5,none⟩ c5)).cell? ⟨w.heap.size,4,none⟩=some c4∧(((((((W.setCell ⟨w.heap.size,0,none⟩ c0).setCell ⟨w.heap.size,1,none⟩ c1).setCell ⟨w.heap.size,2,none⟩ c2).setCell ⟨w.heap.size,3,none⟩ c3).setCell ⟨w.heap.size,4,none⟩ c4).setCell ⟨w.heap.size,5,none⟩ c5)).cell? ⟨w.heap.size,5,none⟩=some c5:=(six_cells (nest6_row h.2.1 c0 c1 c2 c3 c4 c5)).1
theorem jF.reada (h:jF b V all w x W) (o:Obj) (c0 c1 c2 c3 c4 c5:Value):((((((((W.setCell ⟨w.heap.size,0,none⟩ c0).setCell ⟨w.heap.size,1,none⟩ c1).setCell ⟨w.heap.size,2,none⟩ c2).setCell ⟨w.heap.size,3,none⟩ c3).setCell ⟨w.heap.size,4,none⟩ c4).setCell ⟨w.heap.size,5,none⟩ c5)).alloc o).cell? ⟨w.heap.size,0,none⟩=some c0∧((((((((W.setCell ⟨w.heap.size,0,none⟩ c0).setCell ⟨w.heap.size,1,none⟩ c1).setCell ⟨w.heap.size,2,none⟩ c2).setCell ⟨w.heap.size,3,none⟩ c3).setCell ⟨w.heap.size,4,none⟩ c4).setCell ⟨w.heap.size,5,none⟩ c5)).alloc o).cell? ⟨w.heap.size,1,none⟩=some c1∧((((((((W.setCell ⟨w.heap.size,0,none⟩ c0).setCell ⟨w.heap.size,1,none⟩ c1).setCell ⟨w.heap.size,2,none⟩ c2).setCell ⟨w.heap.size,3,none⟩ c3).setCell ⟨w.heap.size,4,none⟩ c4).setCell ⟨w.heap.size,5,none⟩ c5)).alloc o).cell? ⟨w.heap.size,2,none⟩=some c2∧((((((((W.setCell ⟨w.heap.size,0,none⟩ c0).setCell ⟨w.heap.size,1,none⟩ c1).setCell ⟨w.heap.size,2,none⟩ c2).setCell ⟨w.heap.size,3,none⟩ c3).setCell ⟨w.heap.size,4,none⟩ c4).setCell ⟨w.heap.size,5,none⟩ c5)).alloc o).cell? ⟨w.heap.size,3,none⟩=some c3∧((((((((W.setCell ⟨w.heap.size,0,none⟩ c0).setCell ⟨w.heap.size,1,none⟩ c1).setCell ⟨w.heap.size,2,none⟩ c2).setCell ⟨w.heap.size,3,none⟩ c3).setCell ⟨w.heap.size,4,none⟩ c4).setCell ⟨w.heap.size,5,none⟩ c5)).alloc o).cell? ⟨w.heap.size,4,none⟩=some c4∧((((((((W.setCell ⟨w.heap.size,0,none⟩ c0).setCell ⟨w.heap.size,1,none⟩ c1).setCell ⟨w.heap.size,2,none⟩ c2).setCell ⟨w.heap.size,3,none⟩ c3).setCell ⟨w.heap.size,4,none⟩ c4).setCell ⟨w.heap.size,5,none⟩ c5)).alloc o).cell? ⟨w.heap.size,5,none⟩=some c5:=(six_cells (jL (nest6_row h.2.1 c0 c1 c2 c3 c4 c5) o)).1
end
theorem pNm_split (n:Nat) (x:PR Unit):(x.bind fun _ r=>pNm n r)=(x.bind fun _ r=>zy 1 r).bind fun s r=>
 if z9 [40] r=true then (pA n 2 r.tail).bind fun es r=>.ok (.mk 10 0 bE [.mk 7 0 0 s es] [] []) r
 else if z9 [91] r=true then (pE n 1 1 r.tail).bind fun e r=>(zI [93] r).bind fun _ r=>(zI [61] r).bind fun _ r=>(pE n 1 1 r).bind fun f r=>.ok (.mk 3 0 s [e,f] [] []) r
 else (zI [61] r).bind fun _ r=>(pE n 1 1 r).bind fun e r=>.ok (.mk 2 0 s [e] [] []) r:=by
 rw[zW]
 rfl
theorem un_ok {α:Type} {x:PR α} {r:List Tok} (h:x.un=.ok () r):∃ a,x=.ok a r:=by
 cases x with
 | ok a q=>
   have:q=r:=by injection h
   exact⟨a,by rw[this]⟩
 | bad q=>cases h
 | deep q=>cases h
 | out=>cases h
theorem frEs_one_leaf {L:Nat} {W:World} {g:Nat} {k o n:Int} {s:ByteArray} {es:List Ex} {u:Value} {T:TypeId} (h:jK L W es u) (hn:i64R n) (hW:L≤W.heap.size) (hg:g=W.heap.size):
 jK L (W.alloc (.cells #[.int .i64 k,.int .i64 o,.int .i64 n,.string s,u] T)) [.mk k o n s es] (.slice (some ⟨g,0,none⟩) 1 1):=
 vU (L:=L) (show kN L W (.mk k o n s es) _ from⟨u,rfl,hn,h⟩) (Nat.le_refl _) hW hg
theorem r64:i64R 0:=⟨by decide,by decide⟩
theorem named_call {b:Nat} {V:Value} {all:List Tok} {n:Nat} {x:PR Unit} {w:World} {s:ByteArray} {r:List Tok} (h:jS b V all x w) (hx:(x.bind fun _ r=>zy 1 r)=.ok s r) (h7:z9 [40] r=true) (hn:zG (x.bind fun _ r=>pNm n r)):
 Calls Tryd.prog 83 #[.pointer (some ⟨b,0,none⟩)] w (qM b V all w (x.bind fun _ r=>pNm n r) (u7 w.heap.size)):=by
 have ex:(x.bind fun _ r=>pNm n r)=(pA n 2 r.tail).bind fun es r=>.ok (.mk 10 0 bE [.mk 7 0 0 s es] [] []) r:=by
  rw[pNm_split,hx]
  show (if z9 [40] r=true then _ else _)=_
  rw[if_pos h7]
 rw[ex]at hn ⊢
 have HN:=hid (show zG ((PR.ok () r.tail).bind fun _ r=>pA n 2 r) from zv hn)
 have HC:=hid (jF.start h)
 have HX:=hid hx
 have HY:=hid (show zS (⟨#[40]⟩:ByteArray).data.toList (PR.ok () r)=true from h7)
 have HA:=hid (args_all (b:=b) (V:=V) (all:=all) (n:=n) (d:=2) (by decide) (by decide))
 have hbw:=h.lt
 clear h hx h7 hn ex
 go_enter Tryd.func83,Tryd.ntmps83
 go_wp2_with (first
  | (go_at_call 42;(with_reducible refine(yJ HC.out.st 1 (by decide)).mono ?_);rintro e w1 ⟨s',rfl,hD,hG⟩
     rw[HX.out]at hD hG
     obtain rfl:s=s':=hG
     replace HC:=hid (show jF b V all w (.ok () r) w1 from HC.out.step hD)
     clear hD)
  | (go_at_call 43;(with_reducible refine(zl HC.out.st _ HY.out).mono ?_);rintro e w2 ⟨rfl,hD⟩
     replace HC:=hid (show jF b V all w (.ok () r.tail) w2 from HC.out.step hD)
     have hz2:=HC.out.size
     clear hD)
  | (go_at_call 88;(with_reducible refine(HA.out.call HC.out.st HN.out).mono ?_);rintro e w3 ⟨v,rfl,hD,hG⟩
     obtain⟨k5,k6,k7,rfl⟩:=got_forms hG HN.out
     have HG:=hid hG
     replace HC:=hid (HC.out.step hD)
     have hz3:=HC.out.size
     obtain⟨⟨c0,c1,c2,c3,c4,c5⟩,fz⟩:=HC.out.own
     clear hD hG))
 obtain⟨f0,f1,f2,f3,f4,f5⟩:=HC.out.reada (.cells #[.int .i64 7,.int .i64 0,.int .i64 0,.string s,.slice k5 k6 k7] 48) (.int .i64 10) (.int .i64 0) (.string ⟨#[]⟩) (.slice (some ⟨w3.heap.size,0,none⟩) 1 1) (.slice none 0 0) (.slice none 0 0)
 refine bodyPost_ret (v:=.agg #[.int .i64 10,.int .i64 0,.string ⟨#[]⟩,.slice (some ⟨w3.heap.size,0,none⟩) 1 1,.slice none 0 0,.slice none 0 0]) (by simp[results,Tryd.results83,go_sem,f0,f1,f2,f3,f4,f5]) rfl ?_
 refine HC.out.fina (by rw[jP];rfl) (jE.bind HG.out (fun es r _ ha=>?_) fun es ha=>⟨.mk 10 0 bE [.mk 7 0 0 s es] [] [],?_⟩)
 all_goals exact⟨_,_,_,rfl,frEs_one_leaf (jK.keep ha (zM.nest6 hz2 _ _ _ _ _ _) (by omega)) r64 (by rw[xr];omega) (xr _ _ _ _ _ _ _ _).symm,qV _ _,qV _ _⟩
theorem named_set {b:Nat} {V:Value} {all:List Tok} {n:Nat} {x:PR Unit} {w:World} (h:jS b V all x w) (h7:zS [40] (x.bind fun _ r=>zy 1 r)=false) (h8:zS [91] (x.bind fun _ r=>zy 1 r)=false) (hn:zG (x.bind fun _ r=>pNm n r)):
 Calls Tryd.prog 83 #[.pointer (some ⟨b,0,none⟩)] w (qM b V all w (x.bind fun _ r=>pNm n r) (u7 w.heap.size)):=by
 have ex:(x.bind fun _ r=>pNm n r)=(x.bind fun _ r=>zy 1 r).bind fun s r=>(zI [61] r).bind fun _ r=>(pE n 1 1 r).bind fun e r=>.ok (.mk 2 0 s [e] [] []) r:=by
  rw[pNm_split]
  cases hx:(x.bind fun _ r=>zy 1 r) with
  | ok s r=>
    rw[hx]at h7 h8
    show (if z9 [40] r=true then _ else _)=_
    rw[if_neg (by rw[show z9 [40] r=false from h7];decide),if_neg (by rw[show z9 [91] r=false from h8];decide)]
    rfl
  | _=>rfl
 obtain⟨x1,hx1⟩:∃ x1,(x.bind fun _ r=>zy 1 r)=x1:=⟨_,rfl⟩
 rw[hx1]at ex h7 h8
 rw[ex]at hn ⊢
 have hasc:(x1.bind fun s r=>(zI [61] r).bind fun _ r=>(pE n 1 1 r).bind fun e r=>PR.ok (St.mk 2 0 s [e] [] []) r)=x1.bind fun s r=>((zI [61] r).bind fun _ r=>pE n 1 1 r).bind fun e r=>PR.ok (St.mk 2 0 s [e] [] []) r:=by
  simp only[zW]
 have hE2:zG ((x1.un.bind fun _ r=>zI [61] r).bind fun _ r=>pE n 1 1 r):=by
  rw[hasc]at hn
  cases x1 with
  | ok s r=>exact zv hn
  | _=>exact hn
 have HN:=hid hE2
 have HC:=hid (jF.start h)
 have HX:=hid hx1
 have hiu:∀ t,zS t x1.un=zS t x1:=fun t=>by cases x1 <;> rfl
 have HY1:=hid (show zS (⟨#[40]⟩:ByteArray).data.toList x1.un=false from(hiu _).trans h7)
 have HY2:=hid (show zS (⟨#[91]⟩:ByteArray).data.toList x1.un=false from(hiu _).trans h8)
 have HE:=hid (y6 (b:=b) (V:=V) (all:=all) (n:=n) (d:=1) (by decide) (by decide))
 have hbw:=h.lt
 clear h hx1 h7 h8 hn ex hasc hE2 hiu
 go_enter Tryd.func83,Tryd.ntmps83
 go_wp2_with (first
  | (go_at_call 42;(with_reducible refine(yJ HC.out.st 1 (by decide)).mono ?_);rintro e w1 ⟨s,rfl,hD,hG⟩
     rw[HX.out]at hD hG
     have HGS:=hid hG
     replace HC:=hid (HC.out.step hD)
     clear hD hG)
  | (go_at_call 43;(with_reducible refine(zF HC.out.st _ HY1.out).mono ?_);rintro e w2 ⟨rfl,hD⟩;replace HC:=hid (HC.out.step hD);clear hD)
  | (go_at_call 43;(with_reducible refine(zF HC.out.st _ HY2.out).mono ?_);rintro e w3 ⟨rfl,hD⟩;replace HC:=hid (HC.out.step hD);clear hD)
  | (go_at_call 45;(with_reducible refine(zb HC.out.st ⟨#[61]⟩).mono ?_);rintro e w4 ⟨rfl,hD⟩
     replace HC:=hid (show jF b V all w (x1.un.bind fun _ r=>zI [61] r) w4 from HC.out.step hD)
     have hz4:=HC.out.size
     clear hD)
  | (go_at_call 81;(with_reducible refine(HE.out.call HC.out.st HN.out).mono ?_);rintro e w5 ⟨v,rfl,hD,hG⟩
     obtain⟨k1,k2,k3,k4,k5,k6,k7,rfl⟩:=q6 hG HN.out
     have HG:=hid hG
     replace HC:=hid (HC.out.step hD)
     have hz5:=HC.out.size
     obtain⟨⟨c0,c1,c2,c3,c4,c5⟩,fz⟩:=HC.out.own
     clear hD hG))
 obtain⟨f0,f1,f2,f3,f4,f5⟩:=HC.out.reada (.cells #[.int .i64 k1,.int .i64 k2,.int .i64 k3,.string k4,.slice k5 k6 k7] 48) (.int .i64 2) (.int .i64 0) (.string s) (.slice (some ⟨w5.heap.size,0,none⟩) 1 1) (.slice none 0 0) (.slice none 0 0)
 refine bodyPost_ret (v:=.agg #[.int .i64 2,.int .i64 0,.string s,.slice (some ⟨w5.heap.size,0,none⟩) 1 1,.slice none 0 0,.slice none 0 0]) (by simp[results,Tryd.results83,go_sem,f0,f1,f2,f3,f4,f5]) rfl ?_
 have hfr:∀ e,kN w4.heap.size w5 e (.agg #[.int .i64 k1,.int .i64 k2,.int .i64 k3,.string k4,.slice k5 k6 k7])→u7 w.heap.size ((u9 w5 w.heap.size (.int .i64 2) (.int .i64 0) (.string s) (.slice (some ⟨w5.heap.size,0,none⟩) 1 1) (.slice none 0 0) (.slice none 0 0)).alloc (.cells #[.int .i64 k1,.int .i64 k2,.int .i64 k3,.string k4,.slice k5 k6 k7] 48)) (.mk 2 0 s [e] [] []) (.agg #[.int .i64 2,.int .i64 0,.string s,.slice (some ⟨w5.heap.size,0,none⟩) 1 1,.slice none 0 0,.slice none 0 0]):=fun e he=>
  ⟨_,_,_,rfl,vU (kN.keep he (zM.nest6 hz4 _ _ _ _ _ _) (Nat.le_refl _)) (by omega) (by rw[xr];omega) (xr _ _ _ _ _ _ _ _).symm,qV _ _,qV _ _⟩
 have hG:=HG.out
 have hGS:=HGS.out
 refine HC.out.fina ?_ ?_
 · cases x1 with
   | ok s' r=>
     show ((zI [61] r).bind fun _ r=>(pE n 1 1 r).bind fun e r=>PR.ok (St.mk 2 0 s' [e] [] []) r).un=((zI [61] r).bind fun _ r=>pE n 1 1 r).un
     rw[←zW,jP]
     rfl
   | _=>rfl
 · cases x1 with
   | ok s' r=>
     obtain rfl:s'=s:=hGS
     have hG':jE (((zI [61] r).bind fun _ r=>pE n 1 1 r)) fun a=>kN w4.heap.size w5 a (.agg #[.int .i64 k1,.int .i64 k2,.int .i64 k3,.string k4,.slice k5 k6 k7]):=hG
     show jE ((zI [61] r).bind fun _ r=>(pE n 1 1 r).bind fun e r=>PR.ok (St.mk 2 0 s' [e] [] []) r) _
     rw[←zW]
     exact hG'.bind (fun e r _ he=>hfr e he) fun e he=>⟨_,hfr e he⟩
   | bad r=>obtain⟨e,he⟩:=hG;exact⟨_,hfr e he⟩
   | deep r=>obtain⟨e,he⟩:=hG;exact⟨_,hfr e he⟩
   | out=>trivial
theorem q7.drew0 {b:Nat} {V:Value} {all:List Tok} {w w':World} {x:PR Unit} (h:q7 b V all w.drew x w') (hb:b<w.heap.size):q7 b V all w x w':=⟨h.1,(OffB.of_below (Below.refl w.heap.size w).drew hb).trans h.2⟩
theorem jF.drew {b:Nat} {V:Value} {all:List Tok} {w W:World} {x:PR Unit} (h:jF b V all w x W):jF b V all w x W.drew:=h.step ⟨h.st.below (Below.refl _ _).drew,OffB.of_below (Below.refl _ _).drew h.st.lt⟩
def putX (n:Nat) (s:ByteArray) (r:List Tok):PR St:=(pE n 1 1 r).bind fun e r=>(zI [93] r).bind fun _ r=>(zI [61] r).bind fun _ r=>(pE n 1 1 r).bind fun f r=>.ok (.mk 3 0 s [e,f] [] []) r
def putA (n:Nat) (r:List Tok):PR Unit:=(((PR.ok () r).bind fun _ r=>pE n 1 1 r).un.bind fun _ r=>zI [93] r).bind fun _ r=>zI [61] r
theorem put_ends {n:Nat} {s:ByteArray} {r:List Tok} (h:zG (putX n s r)):zG ((putA n r).bind fun _ r=>pE n 1 1 r):=by
 unfold putX at h
 unfold putA
 show zG ((((pE n 1 1 r).un.bind fun _ r=>zI [93] r).bind fun _ r=>zI [61] r).bind fun _ r=>pE n 1 1 r)
 cases hx:pE n 1 1 r with
 | ok e r=>
   rw[hx]at h
   have h':zG ((zI [93] r).bind fun _ r=>(zI [61] r).bind fun _ r=>(pE n 1 1 r).bind fun f r=>.ok (St.mk 3 0 s [e,f] [] []) r):=h
   show zG ((((zI [93] r)).bind fun _ r=>zI [61] r).bind fun _ r=>pE n 1 1 r)
   rw[←zW,←zW]at h'
   exact zv h'
 | bad r=>trivial
 | deep r=>trivial
 | out=>rw[hx]at h;exact h
theorem put_un {n:Nat} {s:ByteArray} {r:List Tok}:(putX n s r).un=((putA n r).bind fun _ r=>pE n 1 1 r).un:=by
 unfold putX putA
 show _=((((pE n 1 1 r).un.bind fun _ r=>zI [93] r).bind fun _ r=>zI [61] r).bind fun _ r=>pE n 1 1 r).un
 cases pE n 1 1 r with
 | ok e r=>
   show ((zI [93] r).bind fun _ r=>(zI [61] r).bind fun _ r=>(pE n 1 1 r).bind fun f r=>PR.ok (St.mk 3 0 s [e,f] [] []) r).un=((((zI [93] r)).bind fun _ r=>zI [61] r).bind fun _ r=>pE n 1 1 r).un
   rw[←zW,←zW,jP]
   rfl
 | _=>rfl
theorem put_got {n:Nat} {s:ByteArray} {r:List Tok} {P1 P2:Ex→Prop} {Q:St→Prop} (h1:jE ((PR.ok () r).bind fun _ r=>pE n 1 1 r) P1) (h2:jE ((putA n r).bind fun _ r=>pE n 1 1 r) P2) (he:zG ((putA n r).bind fun _ r=>pE n 1 1 r)) (hq:∀ e f,P1 e→P2 f→Q (.mk 3 0 s [e,f] [] [])):jE (putX n s r) Q:=by
 obtain⟨f0,hf0⟩:=h2.some he
 unfold putX
 unfold putA at h2
 cases hx:pE n 1 1 r with
 | ok e r1=>
   have hx':((PR.ok () r).bind fun _ r=>pE n 1 1 r)=.ok e r1:=hx
   rw[hx']at h1 h2
   show jE ((zI [93] r1).bind fun _ r=>(zI [61] r).bind fun _ r=>(pE n 1 1 r).bind fun f r=>PR.ok (St.mk 3 0 s [e,f] [] []) r) Q
   have h2':jE ((((zI [93] r1)).bind fun _ r=>zI [61] r).bind fun _ r=>pE n 1 1 r) P2:=h2
   rw[←zW,←zW]
   exact h2'.bind (fun f r _ hf=>hq e f h1 hf) fun f hf=>⟨_,hq e f h1 hf⟩
 | bad r1=>
   have hx':((PR.ok () r).bind fun _ r=>pE n 1 1 r)=.bad r1:=hx
   rw[hx']at h1
   obtain⟨e,he⟩:=h1
   exact⟨_,hq e f0 he hf0⟩
 | deep r1=>
   have hx':((PR.ok () r).bind fun _ r=>pE n 1 1 r)=.deep r1:=hx
   rw[hx']at h1
   obtain⟨e,he⟩:=h1
   exact⟨_,hq e f0 he hf0⟩
 | out=>trivial
theorem fr_two {L M g:Nat} {W:World} {e e2:Ex} {k op n k' op' n':Int} {s s':ByteArray} {u u':Value} {T:TypeId} (h:kN L W e (.agg #[.int .i64 k,.int .i64 op,.int .i64 n,.string s,u])) (h2:kN L W e2 (.agg #[.int .i64 k',.int .i64 op',.int .i64 n',.string s',u'])) (hM:M≤L) (hW:M≤W.heap.size) (hg:g=W.heap.size):
 jK M (W.alloc (.cells #[.int .i64 k,.int .i64 op,.int .i64 n,.string s,u,.int .i64 k',.int .i64 op',.int .i64 n',.string s',u'] T)) [e,e2] (.slice (some ⟨g,0,none⟩) 2 2):=by
 subst hg
 have hk:=zM.of_below (L:=L) ((Below.refl W.heap.size W).alloc (Nat.le_refl _) (.cells #[.int .i64 k,.int .i64 op,.int .i64 n,.string s,u,.int .i64 k',.int .i64 op',.int .i64 n',.string s',u'] T))
 obtain⟨args,rfl,hn,hs⟩:=exV_at (h.keep hk hM)
 obtain⟨args2,rfl,hn2,hs2⟩:=exV_at (h2.keep hk hM)
 exact slE_at2 (w:=mask (low M) _) (b:=W.heap.size) ((mask_in (kY.2 hW)).trans (heap_alloc_new W _)) (by simp) hn hs hn2 hs2
theorem named_put {b:Nat} {V:Value} {all:List Tok} {n:Nat} {x:PR Unit} {w:World} {s:ByteArray} {r:List Tok} (h:jS b V all x w) (hx:(x.bind fun _ r=>zy 1 r)=.ok s r) (h7:z9 [40] r=false) (h8:z9 [91] r=true) (hn:zG (x.bind fun _ r=>pNm n r)):
 Calls Tryd.prog 83 #[.pointer (some ⟨b,0,none⟩)] w (qM b V all w (x.bind fun _ r=>pNm n r) (u7 w.heap.size)):=by
 have ex:(x.bind fun _ r=>pNm n r)=putX n s r.tail:=by
  rw[pNm_split,hx]
  show (if z9 [40] r=true then _ else _)=_
  rw[if_neg (by rw[h7];decide),if_pos h8]
  rfl
 rw[ex]at hn ⊢
 have hn2:=put_ends hn
 have HN1:=hid (show zG ((PR.ok () r.tail).bind fun _ r=>pE n 1 1 r) from zv hn)
 have HN2:=hid hn2
 have HC:=hid (jF.start h)
 have HX:=hid hx
 have HY1:=hid (show zS (⟨#[40]⟩:ByteArray).data.toList (PR.ok () r)=false from h7)
 have HY2:=hid (show zS (⟨#[91]⟩:ByteArray).data.toList (PR.ok () r)=true from h8)
 have HE:=hid (y6 (b:=b) (V:=V) (all:=all) (n:=n) (d:=1) (by decide) (by decide))
 have hbw:=h.lt
 clear h hx h7 h8 hn ex hn2
 go_enter Tryd.func83,Tryd.ntmps83
 go_wp2_with (first
  | (go_at_call 42;(with_reducible refine(yJ HC.out.st 1 (by decide)).mono ?_);rintro e w1 ⟨s',rfl,hD,hG⟩
     rw[HX.out]at hD hG
     obtain rfl:s=s':=hG
     replace HC:=hid (show jF b V all w (.ok () r) w1 from HC.out.step hD)
     clear hD)
  | (go_at_call 43;(with_reducible refine(zF HC.out.st _ HY1.out).mono ?_);rintro e w2 ⟨rfl,hD⟩;replace HC:=hid (HC.out.step hD);clear hD)
  | (go_at_call 43;(with_reducible refine(zl HC.out.st _ HY2.out).mono ?_);rintro e w3 ⟨rfl,hD⟩
     replace HC:=hid (show jF b V all w (.ok () r.tail) w3 from HC.out.step hD)
     have hz3:=HC.out.size
     clear hD)
  | (go_at_call 81;(with_reducible refine(HE.out.call HC.out.st HN1.out).mono ?_);rintro e w4 ⟨v,rfl,hD,hG⟩
     obtain⟨k1,k2,k3,k4,k5,k6,k7,rfl⟩:=q6 hG HN1.out
     have HG:=hid hG
     have hb3:=HC.out.st.lt
     replace HC:=hid (HC.out.step hD)
     have hz4:=HC.out.size
     have hb4:w4.heap.size≠b:=by have:=HC.out.st.lt;omega
     have h34:=hD.off.size
     clear hD hG)
  | (go_at_call 45;(with_reducible refine(zb (HC.out.alloc (.cells #[.int .i64 k1,.int .i64 k2,.int .i64 k3,.string k4,.slice k5 k6 k7] 48)).st ⟨#[93]⟩).mono ?_);rintro e w5 ⟨rfl,hD⟩
     have HK5:=hid ((zM.of_below (L:=w3.heap.size) ((Below.refl _ _).alloc (Nat.le_refl _) _)).trans (zM.did hD hb3))
     have HR5:=hid (qe hD.off (k:=w4.heap.size) (by simp) hb4 (heap_alloc_new w4 _))
     replace HC:=hid (show jF b V all w (((PR.ok () r.tail).bind fun _ r=>pE n 1 1 r).un.bind fun _ r=>zI [93] r) w5 from(HC.out.alloc _).step hD)
     have hz5:w4.heap.size<w5.heap.size:=(Array.getElem?_eq_some_iff.1 HR5.out).1
     clear hD)
  | (go_at_call 45;(with_reducible refine(zb HC.out.st ⟨#[61]⟩).mono ?_);rintro e w6 ⟨rfl,hD⟩
     have HK6:=hid (HK5.out.trans (zM.did hD hb3))
     have hr6:=qe hD.off (k:=w4.heap.size) hz5 hb4 HR5.out
     have HR6:=hid hr6
     obtain⟨⟨p0,p1,p2,p3,p4⟩,pz⟩:=xE hr6
     replace HC:=hid (show jF b V all w (putA n r.tail) w6 from HC.out.step hD)
     have hz6:w4.heap.size<w6.heap.size:=(Array.getElem?_eq_some_iff.1 hr6).1
     clear hD hr6))
 go_region_held3 (fun w'=>w'.cell? ⟨w4.heap.size,0,none⟩=some (.int .i64 k1)∧w'.cell? ⟨w4.heap.size,1,none⟩=some (.int .i64 k2)∧w'.cell? ⟨w4.heap.size,2,none⟩=some (.int .i64 k3)∧w'.cell? ⟨w4.heap.size,3,none⟩=some (.string k4)∧w'.cell? ⟨w4.heap.size,4,none⟩=some (.slice k5 k6 k7))
  (first
    | (go_split_ands;refine⟨?_,?_,?_,?_,?_⟩ <;> (rw[hk7];assumption))
    | (go_split_ands;refine⟨?_,?_,?_,?_,?_⟩ <;> (rw[hk8];assumption))
    | go_keep)
  (first
    | (go_at_call 81;(refine(HE.out.call (HC.out.drew).st HN2.out).mono ?_);rintro e w7 ⟨v,rfl,hD,hG⟩
       obtain⟨j1,j2,j3,j4,j5,j6,j7,rfl⟩:=q6 hG HN2.out
       have HG2:=hid hG
       have hk7:∀ o,w7.cell? ⟨w4.heap.size,o,none⟩=w6.cell? ⟨w4.heap.size,o,none⟩:=(off_own hD.off (k:=w4.heap.size) hz6 hb4).1
       have HK7:=hid (HK6.out.trans (zM.did (hD.drew0 HC.out.st.lt) hb3))
       have h67:=hD.off.size
       have hr7:=qe hD.off (k:=w4.heap.size) hz6 hb4 HR6.out
       have hk8:∀ (c0 c1 c2 c3 c4 c5:Value) (o':Obj) (j:Nat),((u9 w7 w.heap.size c0 c1 c2 c3 c4 c5).alloc o').cell? ⟨w4.heap.size,j,none⟩=w6.cell? ⟨w4.heap.size,j,none⟩:=fun c0 c1 c2 c3 c4 c5 o' j=>
        (Lib.cell_of_heap (jL ((nest6_other (show w4.heap.size≠w.heap.size by omega) c0 c1 c2 c3 c4 c5).trans hr7) o') j).trans (Lib.cell_of_heap HR6.out j).symm
       replace HC:=hid (HC.out.drew.step hD)
       have hz7:=HC.out.size
       obtain⟨⟨c0,c1,c2,c3,c4,c5⟩,fz⟩:=HC.out.own
       clear hD hG))
 go_wp2_with (fail)
 obtain⟨f0,f1,f2,f3,f4,f5⟩:=HC.out.reada (.cells #[.int .i64 k1,.int .i64 k2,.int .i64 k3,.string k4,.slice k5 k6 k7,.int .i64 j1,.int .i64 j2,.int .i64 j3,.string j4,.slice j5 j6 j7] 48) (.int .i64 3) (.int .i64 0) (.string s) (.slice (some ⟨w7.heap.size,0,none⟩) 2 2) (.slice none 0 0) (.slice none 0 0)
 refine bodyPost_ret (v:=.agg #[.int .i64 3,.int .i64 0,.string s,.slice (some ⟨w7.heap.size,0,none⟩) 2 2,.slice none 0 0,.slice none 0 0]) (by simp[results,Tryd.results83,go_sem,f0,f1,f2,f3,f4,f5]) rfl ?_
 refine HC.out.fina put_un (put_got HG.out HG2.out HN2.out fun e f he hf=>?_)
 refine⟨_,_,_,rfl,?_,qV _ _,qV _ _⟩
 refine fr_two (L:=w3.heap.size) (kN.keep he (HK7.out.trans (zM.nest6 hz3 _ _ _ _ _ _)) (Nat.le_refl _)) (kN.keep hf (zM.nest6 (by show w.heap.size<w6.heap.size;omega) _ _ _ _ _ _) (by show w3.heap.size≤w6.heap.size;omega)) (by omega) (by rw[xr];omega) (xr _ _ _ _ _ _ _ _).symm
theorem named_any {b:Nat} {V:Value} {all:List Tok} {n:Nat} {x:PR Unit} {w:World} (h:jS b V all x w) (hn:zG (x.bind fun _ r=>pNm n r)):
 Calls Tryd.prog 83 #[.pointer (some ⟨b,0,none⟩)] w (qM b V all w (x.bind fun _ r=>pNm n r) (u7 w.heap.size)):=by
 cases hx:(x.bind fun _ r=>zy 1 r) with
 | ok s r=>
   cases h7:z9 [40] r with
   | true=>exact named_call h hx h7 hn
   | false=>
     cases h8:z9 [91] r with
     | true=>exact named_put h hx h7 h8 hn
     | false=>exact named_set h (by rw[hx];exact h7) (by rw[hx];exact h8) hn
 | bad r=>exact named_set h (by rw[hx];rfl) (by rw[hx];rfl) hn
 | deep r=>exact named_set h (by rw[hx];rfl) (by rw[hx];rfl) hn
 | out=>exact named_set h (by rw[hx];rfl) (by rw[hx];rfl) hn
end Go.Proofs.YtndgkfkieogplaaDoor
