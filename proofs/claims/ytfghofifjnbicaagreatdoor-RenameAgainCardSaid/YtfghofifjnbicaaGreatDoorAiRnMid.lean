import Derived.Test.YtfghofifjnbicaaGreatDoorAiZed
import Derived.Test.YtfghofifjnbicaaGreatDoorAiRnOk
import Derived.Deep.DeepCutAuto
import Derived.Test.YtfghofifjnbicaaGreatDoorAiParBlk
import Derived.Laws.OwnMore
set_option linter.unusedSimpArgs false
set_option linter.unusedVariables false
set_option maxRecDepth 100000
/- In the midst of a round of the document's block that names anew. -/
namespace Go.Proofs.YtfghofifjnbicaaGreatDoor
open Lib (hid)
open Go.RowKit
structure BkSt (b:Nat) (w:World) (ov av:Value) (done:List St) (all:jE) (nj a:Nat) (W:World):Prop where
 out:OutS w.heap.size (hole a W) ov done
 ne:∀ k,ov.ownBlock=some k→k≠a
 row:W.ownsRow w.heap.size 71 2 av all.length (all.flatMap kQ.cs)
 own:av.ownBlock=some a∨av.ownBlock=none∧a=b
 off:OffB b w.heap.size w W
 st:W.heap[b]? =some (staO nj)
 hb:b<w.heap.size
structure BkMid (b m a:Nat) (wr w2 w:World) (av:Value) (all:jE) (nj a':Nat) (bx:Obj) (W:World):Prop where
 ka:∀ k,k<wr.heap.size→k≠a→k≠b→W.heap[k]? =wr.heap[k]?
 k2:∀ k,k<w2.heap.size→m+1≤k→W.heap[k]? =w2.heap[k]?
 sz:w2.heap.size≤W.heap.size
 row:W.ownsRow w.heap.size 71 2 av all.length (all.flatMap kQ.cs)
 own:av.ownBlock=some a'∨av.ownBlock=none∧a'=b
 ha:a'=a∨w2.heap.size≤a'
 off:OffB b w.heap.size w W
 st:W.heap[b]? =some (staO nj)
 box:W.heap[m]? =some bx
 hb:b<w.heap.size
 hm:m=wr.heap.size
 hm2:m<w2.heap.size
 hw:w.heap.size≤wr.heap.size
 ha0:a=b∨w.heap.size≤a∧a<wr.heap.size
section
variable {b m a:Nat} {wr w2 w:World} {av:Value} {all:jE} {nj a':Nat} {bx:Obj} {W W':World}
end
theorem cnt_len:∀ l:List St,l.length≤cntSs l
 | []=>Nat.zero_le _
 | .mk k t n a b c :: r=>by
   have:=cnt_len r;rw[cntSs,jg,List.length_cons];omega
@[go_sem] theorem buildPr (s t:ByteArray) (w:World):(Instr.build 71 #[(0,.string s),(1,.string t)]).run Tryz.prog w=.ok (.agg #[.string s,.string t]) w:=run_build w 71 _ _ (by kernel_rfl)
def OutT {β:Type} (K:Knd β) (B L:Nat) (w:World) (v:Value) (ps qs:List β):Prop:=
 w.ownsRow B K.T K.n v (ps++qs).length ((ps++qs).flatMap K.cs)∧(∀ k,v.ownBlock=some k→k<L)∧∀ p ∈ ps,K.inn w.heap.size (mask (vP L) w) p
section
variable {β:Type} {K:Knd β} {B L:Nat} {w w':World} {v:Value} {ps qs:List β}
theorem OutT.start (h:w.ownsRow B K.T K.n v qs.length (qs.flatMap K.cs)) (hL:w.heap.size≤L):OutT K B L w v [] qs:=⟨h,fun k hk=>Nat.lt_of_lt_of_le (jW h k hk).1 hL,fun p hp=>by cases hp⟩
theorem OutT.own (h:OutT K B L w v ps qs):∀ k,v.ownBlock=some k→k<w.heap.size∧B≤k:=jW h.1
theorem OutT.keep (h:OutT K B L w v ps qs) (k:zD L w w') (hk:∀ j,j<w.heap.size→v.ownBlock=some j→w'.heap[j]? =w.heap[j]?):OutT K B L w' v ps qs:=
 ⟨xo h.1 fun j hj=>hk j (h.own j hj).1 hj,h.2.1,fun p hm=>xv (h.2.2 p hm) k.1 fun j hj hq=>⟨hq,k.2 j hj (qb.1 hq)⟩⟩
theorem OutT.below (h:OutT K B L w v ps qs) (hb:Below w.heap.size w w'):OutT K B L w' v ps qs:=h.keep (zD.of_below hb) fun j hj _=>hb.block j hj
theorem OutT.fin (h:OutT K B L w v ps []) (hB:B≤L):OutK K B w v ps:=by
 refine⟨?_,fun p hp=>xv (w':=w) (h.2.2 p hp) Zr fun j hj hq=>⟨qA.2 ⟨Nat.le_trans hB (qb.1 hq),fun e=>?_⟩,rfl⟩⟩
 · have:=h.1
   rwa [List.append_nil]at this
 · have h1:=h.2.1 j e
   have h2:=qb.1 hq;omega
theorem OutT.cons (h:OutT K B L w v ps qs) (hq:qs≠[]):∃ g c,v=.slice (some ⟨g,0,none⟩) (ps++qs).length c∧B≤g∧g<w.heap.size∧g<L:=by
 rcases h.1.2 with⟨_,h0⟩ | ⟨g,cap,cur,hv,hb,hg,_⟩
 · rw[List.length_append]at h0
   exact absurd (List.eq_nil_of_length_eq_zero (by omega)) hq
 · exact⟨g,cap,hv,hb,zB hg,h.2.1 g (by rw[hv];rfl)⟩
theorem yf (K:Knd β):∀ l:List β,(l.flatMap K.cs).length=l.length * K.n
 | []=>by simp
 | x :: r=>by rw[List.flatMap_cons,List.length_append,yf K r,K.len,List.length_cons,Nat.add_mul];omega
theorem OutT.cel {g c m:Nat} {q:β} (h:OutT K B L w (.slice (some ⟨g,0,none⟩) m c) ps (q :: qs)) (hm:m=(ps++q :: qs).length) {j:Nat} {u:Value} (hj:(K.cs q)[j]? =some u):w.cell? ⟨g,ps.length * K.n+j,none⟩=some u:=by
 subst hm;have hlt:j<K.n:=by rw[←K.len q];exact(List.getElem?_eq_some_iff.1 hj).1
 rw[h.1.cellAt _ (by rw[List.length_append,List.length_cons,Nat.add_mul,Nat.add_mul];omega)];rw[List.flatMap_append,List.flatMap_cons,List.getElem?_append_right (by rw[yf];omega),yf,Nat.add_sub_cancel_left,List.getElem?_append_left (by rw[K.len];exact hlt)];exact hj
theorem OutT.frz {g c m:Nat} (h:OutT K B L w (.slice (some ⟨g,0,none⟩) m c) ps qs) (hm:m=(ps++qs).length) (j:Nat):w.frozen? ⟨g,j,none⟩=false:=by
 subst hm;exact h.1.frozenAt j
theorem OutT.set {g c m:Nat} {q q':β} (h:OutT K B L w (.slice (some ⟨g,0,none⟩) m c) ps (q :: qs)) (hm:m=(ps++q :: qs).length) {i j:Nat} {u:Value} (hi:i=ps.length * K.n+j) (hq:K.cs q'=(K.cs q).set j u) (hjn:j<K.n):
 OutT K B L (w.setCell ⟨g,i,none⟩ u) (.slice (some ⟨g,0,none⟩) m c) ps (q' :: qs):=by
 subst hm hi;obtain⟨h1,h2⟩:=World.ownsRow.stored h.1 (ps.length * K.n+j) u;have hsz:(w.setCell ⟨g,ps.length * K.n+j,none⟩ u).heap.size=w.heap.size:=by simp[World.setCell]
 have hgL:g<L:=h.2.1 g rfl;refine⟨?_,h.2.1,fun p hp=>xv (h.2.2 p hp) (Nat.le_of_eq hsz.symm) fun k hk hq=>⟨hq,Below.heap_setCell w _ u k (by show k≠g;have:=qb.1 hq;omega)⟩⟩
 have e:((ps++q :: qs).flatMap K.cs).set (ps.length * K.n+j) u=(ps++q' :: qs).flatMap K.cs:=by
  rw[List.flatMap_append,List.flatMap_append,List.flatMap_cons,List.flatMap_cons,hq,List.set_append_right _ _ (by rw[yf];omega),yf,Nat.add_sub_cancel_left,List.set_append_left _ _ (by rw[K.len];exact hjn)]
 rw[e]at h1;have el:(ps++q' :: qs).length=(ps++q :: qs).length:=by simp
 rw[el];exact h1
theorem OutT.push {M:Nat} {q:β} (h:OutT K B L w v ps (q :: qs)) (hf:FrK K M w q) (hM:L≤M):OutT K B L w v (ps++[q]) qs:=by
 refine⟨?_,h.2.1,fun p hp=>?_⟩
 · have:=h.1
   rwa [List.append_assoc,List.singleton_append]
 · rcases List.mem_append.1 hp with hp | hp
   · exact h.2.2 p hp
   · obtain rfl:=List.mem_singleton.1 hp
     exact xv (w:=w) (w':=w) hf Zr fun k hk hq=>⟨qb.2 (Nat.le_trans hM (qb.1 hq)),rfl⟩
theorem osK {α:Type} (K:Knd β) (f:β→α) {N:Nat} {W:World} {g:Nat} {F:α→Nat→Nat→Prop} (hF:∀ a o,F a g o→∃ p,f p=a∧(∀ j u,(K.cs p)[j]? =some u→CellB N W g (o+j) u)∧K.inn N W p):
 ∀ (l:List α) (o:Nat),y6 K.n F l g o→∃ ps:List β,ps.map f=l∧(∀ j u,(ps.flatMap K.cs)[j]? =some u→CellB N W g (o+j) u)∧∀ p ∈ ps,K.inn N W p
 | [],_,_=>⟨[],rfl,fun j u h=>by simp at h,fun p hp=>by cases hp⟩
 | a :: r,o,h=>by
   obtain⟨p,h1,h2,h3⟩:=hF a o h.1;obtain⟨ps,h4,h5,h6⟩:=osK K f hF r (o+K.n) h.2;refine⟨p :: ps,by rw[List.map_cons,h1,h4],fun j u hj=>?_,fun q hq=>?_⟩
   · rw[List.flatMap_cons]at hj
     by_cases hlt:j<(K.cs p).length
     · rw[List.getElem?_append_left hlt]at hj
       exact h2 j u hj
     · rw[List.getElem?_append_right (by omega),K.len]at hj
       rw[K.len]at hlt;have:=h5 (j-K.n) u hj;rwa [show o+K.n+(j-K.n)=o+j by omega]at this
   · rcases List.mem_cons.1 hq with rfl | hq
     · exact h3
     · exact h6 q hq
end
structure Src {β:Type} (K:Knd β) (N:Nat) (w:World) (A:Option Addr) (n:Nat) (os:List β):Prop where
 len:n=os.length
 le:n≤281474976710656
 nil:A=none→n=0
 cel:∀ ad,A=some ad→∀ j u,(os.flatMap K.cs)[j]? =some u→ad.block<N∧w.cell? (ad.add j)=some u
 inn:∀ p ∈ os,K.inn N w p
theorem src_of {α β:Type} (K:Knd β) (f:β→α) {N:Nat} {W:World} {A:Option Addr} {n c:Nat} {l:List α} {F:α→Nat→Nat→Prop} (hF:∀ g a o,F a g o→∃ p,f p=a∧(∀ j u,(K.cs p)[j]? =some u→CellB N W g (o+j) u)∧K.inn N W p)
 (h:xb (.slice A n c) l.length (y6 K.n F l)):∃ os:List β,os.map f=l∧Src K N W A n os:=by
 obtain⟨A',c',hv,hn,hr⟩:=h;injection hv with e1 e2 e3;subst e1 e2 e3;by_cases h0:0<l.length
 · obtain⟨g,o,hA,hl⟩:=hr h0
   obtain⟨ps,h1,h2,h3⟩:=osK K f (hF g) l o hl;refine⟨ps,h1,by rw[←h1,List.length_map],hn,fun h=>absurd (hA.symm.trans h) (by simp),fun ad had j u hu=>?_,h3⟩;rw[hA]at had;injection had with had;subst had;rw[show (⟨g,o,none⟩:Addr).add j=⟨g,o+j,none⟩ by unfold Addr.add;split <;> simp_all];exact⟨(h2 j u hu).1,(h2 j u hu).2⟩
 · obtain rfl:l=[]:=List.eq_nil_of_length_eq_zero (by omega)
   exact⟨[],rfl,rfl,hn,fun _=>rfl,fun ad _ j u hu=>by simp at hu,fun p hp=>by cases hp⟩
theorem Src.below {β:Type} {K:Knd β} {N:Nat} {w w':World} {A:Option Addr} {n:Nat} {os:List β} (h:Src K N w A n os) (hb:Below N w w'):Src K N w' A n os where
 len:=h.len
 le:=h.le
 nil:=h.nil
 cel ad had j u hu:=⟨(h.cel ad had j u hu).1,(hb.cell (p:=ad.add j) (by have:=(h.cel ad had j u hu).1;unfold Addr.add;split <;> exact this)).trans (h.cel ad had j u hu).2⟩
 inn p hp:=K.mono p (fun g o u hc=>hc.below hb Zr) (h.inn p hp)
theorem Src.elems {β:Type} {K:Knd β} {N:Nat} {w:World} {A:Option Addr} {n:Nat} {os:List β} (h:Src K N w A n os):(os.flatMap K.cs).length=n * K.n:=by rw[yf,h.len]
def kX:Knd (Ex × Value) where
 T:=116
 n:=5
 cs p:=[.int .i64 p.1.kind,.int .i64 p.1.op,.int .i64 p.1.n,.string p.1.name,p.2]
 inn N w p:=uU p.1.n∧jL N w p.2 p.1.args
 len _:=rfl
 mono _ hc h:=⟨h.1,h.2.imp hc⟩
def kS4:Knd StP4 where
 T:=88
 n:=6
 cs p:=stC p
 inn N w p:=stIn N w p
 len p:=stC_len p
 mono _ hc h:=stIn_imp hc h
theorem RdEs_RdL (B:Nat) (w:World):∀ (l:List Ex) (g o:Nat),jO B w l g o→y6 5 (fun a g o=>RdE B w a g o) l g o
 | [],_,_,_=>trivial
 | e :: r,g,o,h=>by rw[jO]at h;exact⟨h.1,RdEs_RdL B w r g (o+5) h.2⟩
theorem RdSs_RdL (B:Nat) (w:World):∀ (l:List St) (g o:Nat),jk B w l g o→y6 6 (fun a g o=>RdS B w a g o) l g o
 | [],_,_,_=>trivial
 | e :: r,g,o,h=>by rw[jk]at h;exact⟨h.1,RdSs_RdL B w r g (o+6) h.2⟩
theorem src_exs {N:Nat} {w:World} {A:Option Addr} {n c:Nat} {l:List Ex} (h:jL N w (.slice A n c) l):∃ os:List (Ex × Value),os.map (·.1)=l∧Src kX N w A n os:=
 src_of kX (·.1) (F:=fun a g o=>RdE N w a g o) (fun g a o h=>by
  obtain⟨k,op,m,s,args⟩:=a;rw[RdE]at h;obtain⟨h0,h1,h2,h3,h4,v,h5,h6⟩:=h;refine⟨(.mk k op m s args,v),rfl,fun j u hj=>?_,h4,h6⟩
  match j with
  | 0=>simp[kX,Ex.kind]at hj;subst hj;exact h0
  | 1=>simp[kX,Ex.op]at hj;subst hj;exact h1
  | 2=>simp[kX,Ex.n]at hj;subst hj;exact h2
  | 3=>simp[kX,Ex.name]at hj;subst hj;exact h3
  | 4=>simp[kX]at hj;subst hj;exact h5
  | j+5=>simp[kX]at hj) (xb.imp h fun g o=>RdEs_RdL N w l g o)
theorem src_sts {N:Nat} {w:World} {A:Option Addr} {n c:Nat} {l:List St} (h:SlS N w (.slice A n c) l):∃ os:List StP4,os.map (·.s)=l∧Src kS4 N w A n os:=
 src_of kS4 (·.s) (F:=fun a g o=>RdS N w a g o) (fun g a o h=>by
  obtain⟨k,ty,s,args,thn,els⟩:=a;rw[RdS]at h;obtain⟨h0,h1,h2,⟨v3,h3,s3⟩,⟨v4,h4,s4⟩,⟨v5,h5,s5⟩⟩:=h;refine⟨⟨.mk k ty s args thn els,v3,v4,v5⟩,rfl,fun j u hj=>?_,s3,s4,s5⟩
  match j with
  | 0=>simp[kS4,stC]at hj;subst hj;exact h0
  | 1=>simp[kS4,stC]at hj;subst hj;exact h1
  | 2=>simp[kS4,stC]at hj;subst hj;exact h2
  | 3=>simp[kS4,stC]at hj;subst hj;exact h3
  | 4=>simp[kS4,stC]at hj;subst hj;exact h4
  | 5=>simp[kS4,stC]at hj;subst hj;exact h5
  | j+6=>simp[kS4,stC]at hj) (xb.imp h fun g o=>RdSs_RdL N w l g o)
theorem src_pas {N:Nat} {w:World} {A:Option Addr} {n c:Nat} {l:List Pa} (h:SlP N w (.slice A n c) l):Src kP N w A n l:=by
 replace h:=h.1
 obtain⟨os,h1,h2⟩:=src_of kP (fun p=>p) (F:=fun a g o=>RdP N w a g o) (fun g a o h=>⟨a,rfl,fun j u hj=>by
  match j with
  | 0=>simp[kP]at hj;subst hj;exact h.1
  | 1=>simp[kP]at hj;subst hj;exact h.2
  | j+2=>simp[kP]at hj,trivial⟩) h
 rw[List.map_id']at h1;exact h1 ▸ h2
theorem src_ars {N:Nat} {w:World} {A:Option Addr} {n c:Nat} {l:List Ar} (h:SlA N w (.slice A n c) l):Src kA N w A n l:=by
 obtain⟨os,h1,h2⟩:=src_of kA (fun p=>p) (F:=fun a g o=>RdA N w a g o) (fun g a o h=>⟨a,rfl,fun j u hj=>by
  match j with
  | 0=>simp[kA]at hj;subst hj;exact h.1
  | 1=>simp[kA]at hj;subst hj;exact h.2
  | j+2=>simp[kA]at hj,trivial⟩) h
 rw[List.map_id']at h1;exact h1 ▸ h2
theorem src_fus {N:Nat} {w:World} {A:Option Addr} {n c:Nat} {l:List Fu} (h:SlF N w (.slice A n c) l):∃ os:List FuV,os.map (·.f)=l∧Src kF N w A n os:=
 src_of kF (·.f) (F:=fun a g o=>RdF N w a g o) (fun g a o h=>by
  obtain⟨h0,h1,⟨v2,h2,s2⟩,⟨v3,h3,s3⟩⟩:=h;refine⟨⟨a,v2,v3⟩,rfl,fun j u hj=>?_,s2,s3⟩
  match j with
  | 0=>simp[kF]at hj;subst hj;exact h0
  | 1=>simp[kF]at hj;subst hj;exact h1
  | 2=>simp[kF]at hj;subst hj;exact h2
  | 3=>simp[kF]at hj;subst hj;exact h3
  | j+4=>simp[kF]at hj) h
theorem OutK.exprs {B:Nat} {w:World} {v:Value} {ps:List (Ex × Value)} (h:OutK kX B w v ps) (hn:ps.length≤281474976710656):zX B w (ps.map (·.1)) v:=
 yP.read ⟨ps,rfl,h.1,h.2⟩ (by rw[List.length_map];exact hn)
theorem OutK.stmts {B:Nat} {w:World} {v:Value} {ps:List StP4} (h:OutK kS4 B w v ps) (hn:ps.length≤281474976710656):z5 B w (ps.map (·.s)) v:=
 OutS.read ⟨ps,rfl,h.1,h.2⟩ (by rw[List.length_map];exact hn)
theorem cs_one {β:Type} (K:Knd β) (hK:∀ N w p,K.inn N w p→∀ u ∈ K.cs p,u.oneCell'=true) {N:Nat} {w:World} {os:List β} (h:∀ p ∈ os,K.inn N w p):∀ u ∈ os.flatMap K.cs,u.oneCell'=true:=fun u hu=>by
 obtain⟨p,hp,hx⟩:=List.mem_flatMap.1 hu;exact hK N w p (h p hp) u hx
theorem uR {v:Value} {n:Nat} {F:Nat→Nat→Prop} (h:xb v n F):v.oneCell'=true:=by
 obtain⟨A,c,rfl,_⟩:=h;rfl
theorem kX_one:∀ N w p,kX.inn N w p→∀ u ∈ kX.cs p,u.oneCell'=true:=fun N w p h u hu=>by
 simp[kX]at hu;rcases hu with rfl | rfl | rfl | rfl | rfl <;> first | rfl | exact uR h.2
theorem kS4_one:∀ N w p,kS4.inn N w p→∀ u ∈ kS4.cs p,u.oneCell'=true:=fun N w p h u hu=>by
 obtain⟨⟨k,t,n,a,b,c⟩,v3,v4,v5⟩:=p;simp[kS4,stC]at hu;rcases hu with rfl | rfl | rfl | rfl | rfl | rfl <;> first | rfl | exact uR h.1 | exact uR h.2.1 | exact uR h.2.2
theorem kF_one:∀ N w p,kF.inn N w p→∀ u ∈ kF.cs p,u.oneCell'=true:=fun N w p h u hu=>by
 simp[kF]at hu;rcases hu with rfl | rfl | rfl | rfl <;> first | rfl | exact uR h.1.1 | exact uR h.2
theorem kP_one:∀ N w p,kP.inn N w p→∀ u ∈ kP.cs p,u.oneCell'=true:=fun N w p h u hu=>by
 simp[kP]at hu;rcases hu with rfl | rfl <;> rfl
theorem kA_one:∀ N w p,kA.inn N w p→∀ u ∈ kA.cs p,u.oneCell'=true:=fun N w p h u hu=>by
 simp[kA]at hu;rcases hu with rfl | rfl <;> rfl
end Go.Proofs.YtfghofifjnbicaaGreatDoor
