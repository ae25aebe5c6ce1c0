import Derived.Test.YtfghofifjnbicaaGreatDoorAhZed
import Derived.Test.YtfghofifjnbicaaGreatDoorAhParSt
import Derived.Test.YtfghofifjnbicaaGreatDoorAhTyOw
import Derived.Laws.OwnMore
set_option linter.unusedSimpArgs false
set_option linter.unusedVariables false
set_option maxRecDepth 100000
/- The document's parser: statements in braces. (By tools/gen_parblk.py.) -/
namespace Go.Proofs.YtfghofifjnbicaaGreatDoor
open Lib (hid)
open Go.RowKit
structure StP4 where
 s:St
 v3:Value
 v4:Value
 v5:Value
def stC (p:StP4):List Value:=match p.s with | .mk k t n _ _ _=>[.int .i64 k,.int .i64 t,.string n,p.v3,p.v4,p.v5]
def uT (ps:List StP4):List Value:=ps.flatMap stC
theorem stC_len (p:StP4):(stC p).length=6:=by
 obtain⟨⟨k,t,n,a,b,c⟩,v3,v4,v5⟩:=p;rfl
theorem stCs_snoc (ps:List StP4) (p:StP4):uT (ps++[p])=uT ps++stC p:=by simp[uT]
def stIn (N:Nat) (w:World) (p:StP4):Prop:=match p.s with | .mk _ _ _ a t e=>qw N w p.v3 a∧SlS N w p.v4 t∧SlS N w p.v5 e
theorem SlS.mask {p q:Nat→Bool} {w w':World} {v:Value} {l:List St} (h:SlS w.heap.size (_root_.Go.Proofs.YtfghofifjnbicaaGreatDoor.mask p w) v l) (hs:w.heap.size≤w'.heap.size) (hk:∀ k,k<w.heap.size→p k=false→q k=false∧w'.heap[k]? =w.heap[k]?):SlS w'.heap.size (_root_.Go.Proofs.YtfghofifjnbicaaGreatDoor.mask q w') v l:=by
 refine h.imp fun g o u hc=>?_
 obtain⟨hp,hc⟩:=zn hc;obtain⟨hq,he⟩:=hk g hc.1 hp;exact zy hq ⟨Nat.lt_of_lt_of_le hc.1 hs,(World.cell?_of_block (w:=w) he).trans hc.2⟩
theorem stIn_mask {p q:Nat→Bool} {w w':World} {x:StP4} (h:stIn w.heap.size (mask p w) x) (hs:w.heap.size≤w'.heap.size) (hk:∀ k,k<w.heap.size→p k=false→q k=false∧w'.heap[k]? =w.heap[k]?):stIn w'.heap.size (mask q w') x:=by
 obtain⟨⟨k,t,n,a,b,c⟩,v3,v4,v5⟩:=x;exact⟨qw.mask h.1 hs hk,SlS.mask h.2.1 hs hk,SlS.mask h.2.2 hs hk⟩
theorem stIn_imp {B B':Nat} {w w':World} (hc:∀ g o u,CellB B w g o u→CellB B' w' g o u) {x:StP4} (h:stIn B w x):stIn B' w' x:=by
 obtain⟨⟨k,t,n,a,b,c⟩,v3,v4,v5⟩:=x;exact⟨h.1.imp hc,h.2.1.imp hc,h.2.2.imp hc⟩
def OutS (B:Nat) (w:World) (v:Value) (acc:List St):Prop:=
 ∃ ps:List StP4,ps.map (·.s)=acc∧w.ownsRow B 88 6 v ps.length (uT ps)∧∀ p ∈ ps,stIn w.heap.size (mask (xR B v) w) p
theorem OutS.nil (B:Nat) (w:World):OutS B w (.slice none 0 0) []:=⟨[],rfl,World.ownsRow_nil w B _ 6,fun p hp=>by cases hp⟩
theorem OutS.form {B:Nat} {w:World} {v:Value} {acc:List St} (h:OutS B w v acc):∃ A c,v=.slice A acc.length c:=by
 obtain⟨ps,rfl,ho,_⟩:=h;rw[List.length_map];exact zj ho
theorem OutS.own {B:Nat} {w:World} {v:Value} {acc:List St} (h:OutS B w v acc):∀ k,v.ownBlock=some k→k<w.heap.size∧B≤k:=by
 obtain⟨ps,_,ho,_⟩:=h;exact qJ ho
theorem OutS.keep {B:Nat} {w w':World} {v:Value} {acc:List St} (h:OutS B w v acc) (k:zD B w w'):OutS B w' v acc:=by
 have hown:=h.own;obtain⟨ps,ha,ho,hp⟩:=h;exact⟨ps,ha,qR ho fun j hj=>k.2 j (hown j hj).1 (hown j hj).2,fun p hm=>stIn_mask (hp p hm) k.1 fun j hj hq=>⟨hq,k.2 j hj (zx.1 hq).1⟩⟩
theorem OutS.app {B L:Nat} {w W w':World} {v v':Value} {acc:List St} {e:St} {k t:Int} {s:ByteArray} {v3 v4 v5:Value} (h:OutS B w v acc) (he:yI L w e (.agg #[.int .i64 k,.int .i64 t,.string s,v3,v4,v5])) (hB:B≤L) (hL:∀ k,v.ownBlock=some k→k<L)
 (hW:Below w.heap.size w W) (hg:W.grownBy w' v.ownBlock) (hr:xA W v v') (ho:w'.ownsRow B 88 6 v' (acc.length+1) ((uT (Classical.choose h))++[.int .i64 k,.int .i64 t,.string s,v3,v4,v5])):OutS B w' v' (acc++[e]):=by
 obtain⟨hps,hown,hp⟩:=Classical.choose_spec h;generalize Classical.choose h=ps at *;obtain⟨k',t',s',a,b,c⟩:=e;obtain⟨u3,u4,u5,hv,h3,h4,h5⟩:=he;simp only[Value.agg.injEq,Array.mk.injEq,List.cons.injEq,Value.int.injEq,Value.string.injEq,true_and,and_true]at hv;obtain⟨rfl,rfl,rfl,rfl,rfl,rfl⟩:=hv;have hsz:w.heap.size≤w'.heap.size:=Nat.le_trans hW.size hg.size
 have hblk:∀ j,j<w.heap.size→v.ownBlock≠some j→v'.ownBlock≠some j∧w'.heap[j]? =w.heap[j]?:=fun j hj hne=>by
  refine⟨fun hc=>?_,(hg.block j (Nat.lt_of_lt_of_le hj hW.size) (fun e=>hne e.symm)).trans (hW.block j hj)⟩;rcases hr with h1 | ⟨g,h1,h2⟩
  · exact hne (h1 ▸ hc)
  · rw[h1]at hc
    injection hc with hc;have:=hW.size;omega
 have hnew:∀ j,j<w.heap.size→yd L j=false→xR B v' j=false∧w'.heap[j]? =w.heap[j]?:=fun j hj hq=>by
  have hjL:=qG.1 hq;obtain⟨h3,h4⟩:=hblk j hj (fun hc=>by have:=hL j hc;omega);exact⟨zx.2 ⟨by omega,h3⟩,h4⟩
 refine⟨ps++[⟨.mk k t s a b c,v3,v4,v5⟩],by rw[List.map_append,hps];rfl,?_,fun p hm=>?_⟩
 · rw[stCs_snoc,List.length_append,show ps.length=acc.length by rw[←hps,List.length_map]]
   exact ho
 · rcases List.mem_append.1 hm with hm | hm
   · refine stIn_mask (hp p hm) hsz fun j hj hq=>?_
     obtain⟨h1,h2⟩:=zx.1 hq;obtain⟨h3,h4⟩:=hblk j hj h2;exact⟨zx.2 ⟨h1,h3⟩,h4⟩
   · obtain rfl:=List.mem_singleton.1 hm
     exact⟨qw.mask h3 hsz hnew,SlS.mask h4 hsz hnew,SlS.mask h5 hsz hnew⟩
theorem rdSs_of {N:Nat} {W:World} {g:Nat}:∀ (ps:List StP4) (o:Nat),(∀ j u,(uT ps)[j]? =some u→CellB N W g (o+j) u)→(∀ p ∈ ps,stIn N W p)→jf N W (ps.map (·.s)) g o
 | [],_,_,_=>by
   show jf N W [] g _;rw[jf];trivial
 | p :: r,o,hc,hp=>by
   show jf N W (p.s :: r.map (·.s)) g o;have hin:=hp p (List.mem_cons_self ..);obtain⟨⟨k,t,nm,a,b,c⟩,v3,v4,v5⟩:=p;have e:uT (⟨.mk k t nm a b c,v3,v4,v5⟩ :: r)=.int .i64 k :: .int .i64 t :: .string nm :: v3 :: v4 :: v5 :: uT r:=by simp[uT,stC]
   rw[e]at hc;rw[jf];refine⟨?_,rdSs_of r (o+6) (fun j u hj=>?_) fun q hq=>hp q (List.mem_cons_of_mem _ hq)⟩
   · rw[RdS]
     exact⟨hc 0 _ rfl,hc 1 _ rfl,hc 2 _ rfl,⟨v3,hc 3 _ rfl,hin.1⟩,⟨v4,hc 4 _ rfl,hin.2.1⟩,⟨v5,hc 5 _ rfl,hin.2.2⟩⟩
   · have:=hc (j+6) u (by simpa using hj)
     rw[show o+6+j=o+(j+6) by omega];exact this
theorem OutS.read {B:Nat} {w:World} {v:Value} {acc:List St} (h:OutS B w v acc) (hn:acc.length≤281474976710656):zT B w acc v:=by
 obtain⟨ps,rfl,ho,hp⟩:=h
 have hsub:∀ g o u,CellB w.heap.size (mask (xR B v) w) g o u→CellB w.heap.size (mask (yd B) w) g o u:=fun g o u hc=>by
  obtain⟨hq,hc⟩:=zn hc;exact zy (qG.2 (zx.1 hq).1) hc
 rcases ho.2 with⟨rfl,h0⟩ | ⟨g,cap,cur,rfl,h1,h2,h3,h4,h5,h6⟩
 · have:ps=[]:=List.eq_nil_of_length_eq_zero h0
   subst this;exact slS_nil _ _
 · refine⟨_,cap,?_,?_,fun _=>⟨g,0,rfl,?_⟩⟩
   · rw[List.length_map]
   · exact hn
   · have hglt:g<w.heap.size:=(Array.getElem?_eq_some_iff.1 h2).1
     refine rdSs_of ps 0 (fun j u hj=>?_) fun p hm=>stIn_imp hsub (hp p hm)
     refine zy (qG.2 h1) ⟨hglt,?_⟩;rw[Nat.zero_add,cell_of_row w g j cur _ (0,0) h2];rw[←h6,List.getElem?_take]at hj;split at hj
     · simpa using hj
     · cases hj
theorem st_info:(Tryz.prog.info? 88).map (fun i=>(i.zero,i.size,i.bytes))=some (some st0V,6,104):=by kernel_rfl
theorem blk_pre {B:Nat} {w:World} {v:Value} {acc:List St} (h:OutS B w v acc) (c0 c1 c2 c3 c4 c5:Value) (hB:B≤w.heap.size):
 (w.alloc (.cells #[c0,c1,c2,c3,c4,c5] 88)).ownsRow B 88 6 v acc.length (uT (Classical.choose h))∧
 (∀ j u,[c0,c1,c2,c3,c4,c5][j]? =some u→(w.alloc (.cells #[c0,c1,c2,c3,c4,c5] 88)).cell? ((⟨w.heap.size,0,none⟩:Addr).add j)=some u)∧B≤(w.alloc (.cells #[c0,c1,c2,c3,c4,c5] 88)).heap.size:=by
 obtain⟨hps,hown,hp⟩:=Classical.choose_spec h;refine⟨?_,fun j u hu=>?_,by rw[zA];omega⟩
 · have e:(Classical.choose h).length=acc.length:=by rw[←List.length_map (f:=(·.s)),hps]
   rw[e]at hown;exact qy hown ((Below.refl w.heap.size w).alloc Zr _) Zr
 · rw[show (⟨w.heap.size,0,none⟩:Addr).add j=⟨w.heap.size,j,none⟩ by unfold Addr.add;split <;> simp_all]
   exact(cell_of_row _ w.heap.size j _ _ (0,0) (heap_alloc_new w _)).trans (by simpa using hu)
def xy (b:Nat) (w:World):Nat:=match w.cell? ⟨b,2,none⟩,w.cell? ⟨b,3,none⟩ with
 | some (.bool false),some (.bool false)=>1
 | _,_=>0
theorem liveN_ok {b:Nat} {V:Value} {all r:List Tok} {w:World} (h:zS b V all r false false w):xy b w=1:=by
 unfold xy;rw[h.cells.2.2.1,h.cells.2.2.2]
theorem yh {b:Nat} {V:Value} {all:List Tok} {x:PR Unit} {w:World} (h:qx b V all x w) (ho:zg x=true):xy b w=0:=by
 unfold xy;obtain⟨r,bd,dp,hp,h1,_⟩:=h.box;rw[ho]at h1;rw[hp.cells.2.2.1,hp.cells.2.2.2];cases bd <;> cases dp <;> first | rfl | cases h1
theorem liveN_le (b:Nat) (w:World):xy b w≤1:=by
 unfold xy;split <;> omega
def BlkRel (b:Nat) (V:Value) (all:List Tok) (w:World) (T:PR (List St)) (n:Nat) (d:Int) (ov:Value) (wr:World):Prop:=
 ∃ (m:Nat) (acc:List St) (y:PR Unit),m≤n∧OutS w.heap.size wr ov acc∧qY b V all w y wr∧T=y.bind (fun _ r=>pBL m d acc r)∧(zg y=false→acc.length≤xG b wr)∧acc.length≤2000000
def BlkNext (b:Nat) (V:Value) (all:List Tok) (w w':World) (q:Nat) (d:Int) (acc:List St) (r:List Tok) (v':Value):Prop:=
 (∃ (acc':List St) (y:PR Unit),OutS w.heap.size w' v' acc'∧qY b V all w y w'∧pBL (q+1) d acc r=y.bind (fun _ r=>pBL q d acc' r)∧(zg y=false→acc'.length≤xG b w')∧acc'.length≤2000000)∧2 * (all.length-xG b w')+xy b w'<2 * r.length+1
theorem zAa {q:Nat} {d:Int} {acc:List St} {r:List Tok} (h:z6 [125] r=false):pBL (q+1) d acc r=(pS q d r).bind fun s r=>pBL q d (acc++[s]) r:=by rw[pBL,if_neg (by rw[h];decide)]
theorem blk_next {b:Nat} {V:Value} {all:List Tok} {w w2 w':World} {q:Nat} {d:Int} {acc:List St} {r:List Tok} {v v':Value} {L:Nat} {k t:Int} {s:ByteArray} {v3 v4 v5:Value}
 (hO:OutS w.heap.size w2 v acc) (hD:qY b V all w (pS q d r).un w2) (hG:qn (pS q d r) fun a=>yI L w2 a (.agg #[.int .i64 k,.int .i64 t,.string s,v3,v4,v5])) (hF:zY 1 r (pS q d r)) (h125:z6 [125] r=false)
 (hg:(w2.alloc (.cells #[.int .i64 k,.int .i64 t,.string s,v3,v4,v5] 88)).grownBy w' v.ownBlock) (hr:xA (w2.alloc (.cells #[.int .i64 k,.int .i64 t,.string s,v3,v4,v5] 88)) v v')
 (ho:w'.ownsRow w.heap.size 88 6 v' (acc.length+1) ((uT (Classical.choose hO))++[.int .i64 k,.int .i64 t,.string s,v3,v4,v5])) (hL:∀ k,v.ownBlock=some k→k<L) (hBL:w.heap.size≤L) (hrl:r.length≤all.length)
 (hacc:acc.length≤1000000) (hat:acc.length≤all.length-r.length) (ht:vy b V all w) (hbw:b<w.heap.size) (hrp:0<r.length):BlkNext b V all w w' q d acc r v':=by
 have hal:Below w2.heap.size w2 (w2.alloc (.cells #[.int .i64 k,.int .i64 t,.string s,v3,v4,v5] 88)):=Zb.alloc Zr _
 have hmove:∀ x,qY b V all w x w2→qY b V all w x w':=fun x hx=>by
  have h1:=hx.alloc (.cells #[.int .i64 k,.int .i64 t,.string s,v3,v4,v5] 88)
  have hob:v.ownBlock≠some b:=fun e=>by
   have h3:=(hO.own b e).2;omega
  have hoff:OffB b w.heap.size w w':=h1.off.trans (OffB.mk' hg.os hg.tape hg.output hg.size h1.st.lt fun j hj hjb=>hg.block j (by have:=h1.off.size;omega) (fun e=>by
   have:=(hO.own j e.symm).2
   omega))
  exact⟨h1.st.move ht hoff (hg.block b h1.st.lt (fun e=>hob e.symm)),hoff⟩
 have hD2:=hmove _ hD;cases hx:pS q d r with
 | ok e r2=>
   rw[hx]at hG hD2 hF;have hF':zH 1 r r2:=hF;have hp:zS b V all r2 false false w':=hD2.st;have hao:=qk hp;have hl:=hF'.2.2;have hlv:=liveN_le b w';refine⟨⟨acc++[e],.ok () r2,hO.app hG hBL hL hal hg hr ho,hD2,by rw[zAa h125,hx];rfl,fun _=>?_,?_⟩,?_⟩
   · rw[hao,List.length_append]
     simp;omega
   · rw[List.length_append]
     simp;omega
   · rw[hao]
     omega
 | bad r2=>
   rw[hx]at hG hD2 hF;have hF':zH 0 r r2:=hF;have hp:zS b V all r2 true false w':=hD2.st;have hao:=qk hp;have hl:=hF'.2.2;have hlv:=yh hD2.st rfl;obtain⟨e,he⟩:=hG;refine⟨⟨acc++[e],.bad r2,hO.app he hBL hL hal hg hr ho,hD2,by rw[zAa h125,hx];rfl,(fun h=>by cases h),?_⟩,?_⟩
   · rw[List.length_append]
     simp;omega
   · rw[hao,hlv]
     omega
 | deep r2=>
   rw[hx]at hG hD2 hF;have hF':zH 0 r r2:=hF;have hp:zS b V all r2 false true w':=hD2.st;have hao:=qk hp;have hl:=hF'.2.2;have hlv:=yh hD2.st rfl;obtain⟨e,he⟩:=hG;refine⟨⟨acc++[e],.deep r2,hO.app he hBL hL hal hg hr ho,hD2,by rw[zAa h125,hx];rfl,(fun h=>by cases h),?_⟩,?_⟩
   · rw[List.length_append]
     simp;omega
   · rw[hao,hlv]
     omega
 | out=>
   rw[hx]at hD2;exact absurd hD2.st id
theorem stmt_st {b:Nat} {V:Value} {all r:List Tok} {w:World} {n:Nat} {d:Int} (hB:d≤100→∀ m,m≤n→CB b V all m (d+1)) (h:qx b V all (.ok () r) w) (hd:0≤d∧d≤1000) (hn:zG (pS (n+1) d r)):
 Calls Tryz.prog 84 #[.pointer (some ⟨b,0,none⟩),.int .i64 d] w (qF b V all w (pS (n+1) d r) (yI w.heap.size)):=pstmt_any hB h hd hn
theorem blk_over {b:Nat} {V:Value} {all:List Tok} {x:PR Unit} {w:World} (h:qx b V all x w) (ho:zg x=true) (d:Int):
 Calls Tryz.prog 68 #[.pointer (some ⟨b,0,none⟩),.int .i64 d] w fun e w'=>e=.returned (.slice none 0 0)∧qY b V all w x w':=by
 have HD:=hid (show qY b V all w x w from⟨h,OffB.refl _ _ _⟩);have HO:=hid ho;have HM:=hid (show (x.bind fun _ r=>zL (⟨#[123]⟩:ByteArray).data.toList r)=x by cases x with | ok u r=>cases ho | _=>rfl);clear h ho;go_enter Tryz.func68,Tryz.ntmps68
 go_wp2_with (first
  | (go_at_call 44;(with_reducible refine(zW HD.out.st _).mono ?_);rintro e w2 ⟨rfl,hD⟩;rw[HM.out]at hD;replace HD:=hid (HD.out.after hD);clear hD))
 go_loopw [5] (fun ov wr=>ov=.slice none 0 0∧qY b V all w x wr) (fun _ _=>0)
 case atStart=>exact⟨rfl,HD.out⟩
 case round=>
  obtain⟨rfl,hD⟩:=hrel;replace HD:=hid hD;clear hD
  go_wp2_with (first
   | (go_at_call 39;(with_reducible refine(zl HD.out.st true HO.out).mono ?_);rintro e w1 ⟨rfl,rfl⟩))
  go_ret;exact⟨rfl,HD.out⟩
theorem blk_end {b:Nat} {V:Value} {all:List Tok} {w W:World} {T:PR (List St)} {acc:List St} {v:Value} {z:PR Unit} (hD:qY b V all w z W) (hv:OutS w.heap.size W v acc) (hn:acc.length≤2000000) (hT:T=z.bind fun _ r=>.ok acc r):qF b V all w T (zT w.heap.size) (.returned v) W:=by
 have hr:=hv.read (by omega);subst hT;refine⟨v,rfl,?_,?_⟩
 · rw[qr]
   have e:(z.bind fun _ r=>(PR.ok acc r).un)=z:=by cases z <;> rfl
   rw[e];exact hD
 · cases z with
   | ok u r=>exact hr
   | bad r=>exact⟨acc,hr⟩
   | deep r=>exact⟨acc,hr⟩
   | out=>trivial
theorem blk_any {b:Nat} {V:Value} {all:List Tok} {x:PR Unit} {w:World} {n:Nat} {d:Int} (hB:d≤100→∀ m,m≤n→CB b V all m (d+1)) (h:qx b V all x w) (hd:0≤d∧d≤1000) (T:PR (List St)) (hT:T=(x.bind fun _ r=>zL [123] r).bind fun _ r=>pBL n d [] r) (hn:zG T):
 Calls Tryz.prog 68 #[.pointer (some ⟨b,0,none⟩),.int .i64 d] w (qF b V all w T (zT w.heap.size)):=by
 have HD:=hid (show qY b V all w x w from⟨h,OffB.refl _ _ _⟩);have hlt0:=h.lt;have HTK:=hid h.tok;have HB:=hid hB;have HN:=hid hn;have HT:=hid hT;have HDD:=hid hd;clear h hn hT hB hd;go_enter Tryz.func68,Tryz.ntmps68
 go_wp2_with (first
  | (go_at_call 44;(with_reducible refine(zW HD.out.st ⟨#[123]⟩).mono ?_);rintro e w1 ⟨rfl,hD⟩
     replace HD:=hid (show qY b V all w (x.bind fun _ r=>zL [123] r) w1 from HD.out.after hD)
     clear hD))
 go_loopw [5] (fun ov wr=>BlkRel b V all w T n d ov wr) (fun _ wr=>2 * (all.length-xG b wr)+xy b wr)
 case atStart=>exact⟨n,[],_,Nat.le_refl _,OutS.nil _ _,HD.out,HT.out,fun _=>Nat.zero_le _,by simp⟩
 case round=>
  obtain⟨i0,hi0,hz0,hz1,hz2⟩:=info_parts st_info;have HI0:=hid (And.intro hi0 (And.intro hz0 (And.intro hz1 hz2)));clear hi0 hz0 hz1 hz2;obtain⟨m,acc,y,hmn,hO,hD,hTy,hacc,hac2⟩:=hrel;cases ho:zg y with
  | true=>
    have hTT:T=y.bind fun _ r=>.ok acc r:=hTy.trans (vk ho _ _)
    have HTT:=hid hTT;have HO:=hid hO;replace HD:=hid hD;have HOV:=hid ho;obtain⟨A0,c0,rfl⟩:=hO.form;clear hD hO hTy hTT hacc ho
    go_wp2_with (first
     | (go_at_call 39;(with_reducible refine(zl HD.out.st true HOV.out).mono ?_);rintro e w2 ⟨rfl,rfl⟩))
    go_ret;exact blk_end HD.out HO.out hac2 HTT.out
  | false=>
    obtain⟨r,rfl⟩:∃ r,y=.ok () r:=by
     cases y with
     | ok u r=>exact⟨r,rfl⟩
     | bad r=>cases ho
     | deep r=>cases ho
     | out=>exact absurd hD.st id
    have hacc9:=hacc rfl;clear hacc;obtain⟨hat,hrl,hal,hen,hrp⟩:=kn hD;rw[hat]at hacc9;have hlv:=liveN_ok (show zS b V all r false false wr from hD.st);cases hs:z6 [125] r with
    | true=>
      have hTT:T=(PR.ok () r.tail).bind fun _ r=>.ok acc r:=by
       rw[hTy];show pBL m d acc r=.ok acc r.tail;cases m with
       | zero=>have h1:=HN.out;rw[hTy]at h1;exact absurd (show zG (pBL 0 d acc r) from h1) (by rw[pBL];exact id)
       | succ m=>rw[pBL,if_pos hs]
      have HTT:=hid hTT;have HV:=hid (show zP (⟨#[125]⟩:ByteArray).data.toList (PR.ok () r)=true from hs);have HO:=hid hO;replace HD:=hid hD;obtain⟨A0,c0,rfl⟩:=hO.form;clear hD hO hTy hTT hat hen hs ho hlv
      go_wp2_with (first
       | (go_at_call 39;(with_reducible refine(zl HD.out.st false rfl).mono ?_);rintro e w2 ⟨rfl,rfl⟩)
       | (go_at_call 42;(with_reducible refine(zb HD.out.st _ HV.out).mono ?_);rintro e w3 ⟨rfl,hD⟩
          replace HO:=hid (HO.out.keep (zD.did hD hlt0));replace HD:=hid (show qY b V all w (.ok () r.tail) w3 from HD.out.after hD)
          clear hD))
      go_ret;exact blk_end HD.out HO.out hac2 HTT.out
    | false=>
      obtain⟨q,rfl⟩:∃ q,m=q+2:=by
       match m with
       | 0=>have h1:=HN.out;rw[hTy]at h1;exact absurd (show zG (pBL 0 d acc r) from h1) (by rw[pBL];exact id)
       | 1=>have h1:=HN.out;rw[hTy]at h1;exact absurd (show zG (pBL 1 d acc r) from h1) (by rw[zAa hs,pS];exact id)
       | q+2=>exact⟨q,rfl⟩
      have hTT:T=pBL (q+2) d acc r:=hTy;have HTT:=hid hTT;have HV:=hid (show zP (⟨#[125]⟩:ByteArray).data.toList (PR.ok () r)=false from hs);have HS:=hid hs;have HN2:=hid (show zG (pS (q+1) d r) by have h1:=HN.out;rw[hTT,zAa hs]at h1;exact zo h1);have HF:=hid (pS_fits (n:=q+1) (d:=d) hen);have HBQ:=hid (show d≤100→∀ m,m≤q→CB b V all m (d+1) from fun h m hm=>HB.out h m (by omega));have HO:=hid hO;have HAT:=hid hat;have HLV:=hid hlv;replace HD:=hid hD;obtain⟨A0,c0,rfl⟩:=hO.form;clear hD hO hTy hTT hat hen hs ho hlv
      go_wp2_with (first
       | (go_at_call 39;(with_reducible refine(zl HD.out.st false rfl).mono ?_);rintro e w2 ⟨rfl,rfl⟩)
       | (go_at_call 42;(with_reducible refine(zF HD.out.st _ HV.out).mono ?_);rintro e w3 ⟨rfl,hD⟩
          replace HO:=hid (HO.out.keep (zD.did hD hlt0));replace HD:=hid (HD.out.after hD);have HD0:=HD
          clear hD)
       | (go_at_call 84;(with_reducible refine(stmt_st HBQ.out HD.out.st HDD.out HN2.out).mono ?_);rintro e w4 ⟨v,rfl,hD,hG⟩
          obtain⟨k0,k1,k2,A3,m3,q3,A4,m4,q4,A5,m5,q5,rfl⟩:=gots_form hG HN2.out;have HG:=hid hG;have HO2:=hid (HO.out.keep (zD.did hD hlt0));have HLT:=hid HO.out.own;replace HD:=hid (HD.out.after hD);have HPRE:=hid (blk_pre HO2.out (.int .i64 k0) (.int .i64 k1) (.string k2) (.slice A3 m3 q3) (.slice A4 m4 q4) (.slice A5 m5 q5) (by have:=HD.out.off.size;omega))
          clear hD hG)
       | (at_builtin;refine zw rfl (.tmp 16) (.tmp 20) _ rfl w.heap.size 88 i0 _ 6 104 Tryz.underlying43 HI0.out.1 HI0.out.2.1 HI0.out.2.2.1 HI0.out.2.2.2 rfl (by omega) (.slice A0 acc.length c0) acc.length _ rfl (by exact HPRE.out.1) ⟨w4.heap.size,0,none⟩ 1 1 [.int .i64 k0,.int .i64 k1,.string k2,.slice A3 m3 q3,.slice A4 m4 q4,.slice A5 m5 q5] rfl rfl (by exact HPRE.out.2.1) (by simp[Value.oneCell']) (by simp only[maxLen];omega) (by omega) (by exact HPRE.out.2.2) (by omega) ?_;intro v1 w5 hown1 hg1 hr1;have HO1:=hid hown1;have HG1:=hid hg1;have HR1:=hid hr1;clear hown1 hg1 hr1))
      have HX:=hid (blk_next (d:=d) (q:=q+1) HO2.out HD.out HG.out HF.out HS.out HG1.out HR1.out HO1.out (fun k hk=>(HLT.out k hk).1) (by have:=HD0.out.off.size;omega) hrl (by omega) hacc9 HTK.out hlt0 hrp);go_roundw
      case rel=>
       obtain⟨acc',y,h1,h2,h3,h4,h5⟩:=HX.out.1;exact⟨q+1,acc',y,by omega,h1,h2,HTT.out.trans h3,h4,h5⟩
      case measure=>
       have h1:=HX.out.2;have h2:=HAT.out;have h3:=HLV.out;simp only[h2,h3]at *;omega
theorem block_all (b:Nat) (V:Value) (all:List Tok):∀ (n:Nat),∀ m,m≤n→∀ d:Int,0≤d→d≤101→CB b V all m d
 | 0,m,hm,d,h1,h2=>by
   obtain rfl:m=0:=by omega
   intro w x h hn;cases ho:zg x with
   | true=>exact(blk_over h ho d).mono fun e w' ⟨he,hD⟩=>he ▸ us ho hD [] (slS_nil _ _)
   | false=>
     cases x with
     | ok u r=>exact absurd (show zG (pB 0 d r) from hn) (by rw[pB];exact id)
     | bad r=>cases ho
     | deep r=>cases ho
     | out=>exact absurd h id
 | n+1,m,hm,d,h1,h2=>by
   have ih:=block_all b V all n;by_cases hmn:m≤n
   · exact ih m hmn d h1 h2
   · obtain rfl:m=n+1:=by omega
     intro w x h hn
     exact blk_any (n:=n) (fun hd q hq=>ih q hq (d+1) (by omega) (by omega)) h ⟨h1,by omega⟩ _ (by
      cases x with
      | ok u r=>show pB (n+1) d r=_;rw[pB];rfl
      | _=>rfl) hn
theorem pblock_any {b:Nat} {V:Value} {all:List Tok} {n:Nat} {d:Int} (h1:0≤d) (h2:d≤101):CB b V all n d:=block_all b V all n n Zr d h1 h2
structure Knd (β:Type) where
 T:TypeId
 n:Nat
 cs:β→List Value
 inn:Nat→World→β→Prop
 len:∀ p,(cs p).length=n
 mono:∀ {B B':Nat} {w w':World} (p:β),(∀ g o u,CellB B w g o u→CellB B' w' g o u)→inn B w p→inn B' w' p
def OutK {β:Type} (K:Knd β) (B:Nat) (w:World) (v:Value) (ps:List β):Prop:=
 w.ownsRow B K.T K.n v ps.length (ps.flatMap K.cs)∧∀ p ∈ ps,K.inn w.heap.size (mask (xR B v) w) p
def FrK {β:Type} (K:Knd β) (L:Nat) (w:World) (p:β):Prop:=K.inn w.heap.size (mask (yd L) w) p
section
variable {β:Type} {K:Knd β} {B:Nat} {w w':World} {v:Value} {ps:List β}
theorem OutK.nil (K:Knd β) (B:Nat) (w:World):OutK K B w (.slice none 0 0) []:=⟨World.ownsRow_nil w B _ _,fun p hp=>by cases hp⟩
theorem OutK.form (h:OutK K B w v ps):∃ A c,v=.slice A ps.length c:=zj h.1
theorem OutK.own (h:OutK K B w v ps):∀ k,v.ownBlock=some k→k<w.heap.size∧B≤k:=qJ h.1
theorem xk {p q:Nat→Bool} {x:β} (h:K.inn w.heap.size (mask p w) x) (hs:w.heap.size≤w'.heap.size) (hk:∀ k,k<w.heap.size→p k=false→q k=false∧w'.heap[k]? =w.heap[k]?):K.inn w'.heap.size (mask q w') x:=
 K.mono x (fun g o u hc=>by
  obtain⟨hp,hc⟩:=zn hc;obtain⟨hq,he⟩:=hk g hc.1 hp
  exact zy hq ⟨Nat.lt_of_lt_of_le hc.1 hs,(World.cell?_of_block (w:=w) he).trans hc.2⟩) h
theorem OutK.keep (h:OutK K B w v ps) (k:zD B w w'):OutK K B w' v ps:=
 ⟨qR h.1 fun j hj=>k.2 j (h.own j hj).1 (h.own j hj).2,fun p hm=>xk (h.2 p hm) k.1 fun j hj hq=>⟨hq,k.2 j hj (zx.1 hq).1⟩⟩
theorem OutK.app {L:Nat} {W:World} {v':Value} {p:β} (h:OutK K B w v ps) (he:FrK K L w p) (hB:B≤L) (hL:∀ k,v.ownBlock=some k→k<L)
 (hW:Below w.heap.size w W) (hg:W.grownBy w' v.ownBlock) (hr:xA W v v') (ho:w'.ownsRow B K.T K.n v' (ps.length+1) (ps.flatMap K.cs++K.cs p)):OutK K B w' v' (ps++[p]):=by
 have hsz:w.heap.size≤w'.heap.size:=Nat.le_trans hW.size hg.size
 have hblk:∀ j,j<w.heap.size→v.ownBlock≠some j→v'.ownBlock≠some j∧w'.heap[j]? =w.heap[j]?:=fun j hj hne=>by
  refine⟨fun hc=>?_,(hg.block j (Nat.lt_of_lt_of_le hj hW.size) (fun e=>hne e.symm)).trans (hW.block j hj)⟩;rcases hr with h1 | ⟨g,h1,h2⟩
  · exact hne (h1 ▸ hc)
  · rw[h1]at hc
    injection hc with hc;have:=hW.size;omega
 refine⟨?_,fun q hm=>?_⟩
 · rw[List.flatMap_append,List.length_append]
   simpa using ho
 · rcases List.mem_append.1 hm with hm | hm
   · refine xk (h.2 q hm) hsz fun j hj hq=>?_
     obtain⟨h1,h2⟩:=zx.1 hq;obtain⟨h3,h4⟩:=hblk j hj h2;exact⟨zx.2 ⟨h1,h3⟩,h4⟩
   · obtain rfl:=List.mem_singleton.1 hm
     refine xk he hsz fun j hj hq=>?_
     have hjL:=qG.1 hq;obtain⟨h3,h4⟩:=hblk j hj (fun hc=>by have:=hL j hc;omega);exact⟨zx.2 ⟨by omega,h3⟩,h4⟩
theorem OutK.pre (h:OutK K B w v ps) (cs:List Value) (hB:B≤w.heap.size):
 (w.alloc (.cells cs.toArray K.T)).ownsRow B K.T K.n v ps.length (ps.flatMap K.cs)∧
 (∀ j u,cs[j]? =some u→(w.alloc (.cells cs.toArray K.T)).cell? ((⟨w.heap.size,0,none⟩:Addr).add j)=some u)∧B≤(w.alloc (.cells cs.toArray K.T)).heap.size:=by
 refine⟨qy h.1 ((Below.refl w.heap.size w).alloc Zr _) Zr,fun j u hu=>?_,by rw[zA];omega⟩;rw[show (⟨w.heap.size,0,none⟩:Addr).add j=⟨w.heap.size,j,none⟩ by unfold Addr.add;split <;> simp_all];exact(cell_of_row _ w.heap.size j _ _ (0,0) (heap_alloc_new w _)).trans (by simpa using hu)
theorem rdK_of {α:Type} (K:Knd β) (f:β→α) {N:Nat} {W:World} {g:Nat} {F:α→Nat→Nat→Prop} (hF:∀ p o,(∀ j u,(K.cs p)[j]? =some u→CellB N W g (o+j) u)→K.inn N W p→F (f p) g o):
 ∀ (ps:List β) (o:Nat),(∀ j u,(ps.flatMap K.cs)[j]? =some u→CellB N W g (o+j) u)→(∀ p ∈ ps,K.inn N W p)→xn K.n F (ps.map f) g o
 | [],_,_,_=>trivial
 | p :: r,o,hc,hp=>by
   rw[List.flatMap_cons]at hc;refine⟨hF p o (fun j u hj=>hc j u ?_) (hp p (List.mem_cons_self ..)),rdK_of K f hF r (o+K.n) (fun j u hj=>?_) fun q hq=>hp q (List.mem_cons_of_mem _ hq)⟩
   · rw[List.getElem?_append_left (List.getElem?_eq_some_iff.1 hj).1]
     exact hj
   · have:=hc (j+K.n) u (by rw[List.getElem?_append_right (by rw[K.len];omega),K.len,Nat.add_sub_cancel];exact hj)
     rw[show o+K.n+j=o+(j+K.n) by omega];exact this
theorem OutK.read {α:Type} (f:β→α) {F:Nat→World→α→Nat→Nat→Prop} (hF:∀ N W p g o,(∀ j u,(K.cs p)[j]? =some u→CellB N W g (o+j) u)→K.inn N W p→F N W (f p) g o) (h:OutK K B w v ps) (hn:ps.length≤281474976710656):
 xF v (ps.map f).length (xn K.n (F w.heap.size (mask (yd B) w)) (ps.map f)):=by
 have hsub:∀ g o u,CellB w.heap.size (mask (xR B v) w) g o u→CellB w.heap.size (mask (yd B) w) g o u:=fun g o u hc=>by
  obtain⟨hq,hc⟩:=zn hc;exact zy (qG.2 (zx.1 hq).1) hc
 obtain⟨ho,hp⟩:=h;rcases ho.2 with⟨rfl,h0⟩ | ⟨g,cap,cur,rfl,h1,h2,h3,h4,h5,h6⟩
 · have:ps=[]:=List.eq_nil_of_length_eq_zero h0
   subst this;exact⟨none,0,rfl,Nat.zero_le _,fun h=>absurd h (by simp)⟩
 · refine⟨_,cap,?_,?_,fun _=>⟨g,0,rfl,?_⟩⟩
   · rw[List.length_map]
   · rw[List.length_map];exact hn
   · have hglt:g<w.heap.size:=(Array.getElem?_eq_some_iff.1 h2).1
     refine rdK_of K f (fun p o=>hF _ _ p g o) ps 0 (fun j u hj=>?_) fun p hm=>K.mono p hsub (hp p hm)
     refine zy (qG.2 h1) ⟨hglt,?_⟩;rw[Nat.zero_add,cell_of_row w g j cur _ (0,0) h2];rw[←h6,List.getElem?_take]at hj;split at hj
     · simpa using hj
     · cases hj
end
def kP:Knd Pa where
 T:=47
 n:=2
 cs p:=[.string p.name,.int .i64 p.type]
 inn _ _ _:=True
 len _:=rfl
 mono _ _ h:=h
def kA:Knd Ar where
 T:=62
 n:=2
 cs p:=[.string p.name,.int .i64 p.size]
 inn _ _ _:=True
 len _:=rfl
 mono _ _ h:=h
theorem RdP.imp {B B':Nat} {w w':World} (hc:∀ g o u,CellB B w g o u→CellB B' w' g o u) (a:Pa) (g o:Nat) (h:RdP B w a g o):RdP B' w' a g o:=⟨hc _ _ _ h.1,hc _ _ _ h.2⟩
theorem SlP.imp {B B':Nat} {w w':World} (hc:∀ g o u,CellB B w g o u→CellB B' w' g o u) {v:Value} {l:List Pa} (h:SlP B w v l):SlP B' w' v l:=⟨xF.imp h.1 fun g o=>xn.imp (fun a g o=>RdP.imp hc a g o) l g o,h.2⟩
structure FuV where
 f:Fu
 v2:Value
 v3:Value
def kF:Knd FuV where
 T:=45
 n:=4
 cs p:=[.string p.f.name,.int .i64 p.f.type,p.v2,p.v3]
 inn N w p:=SlP N w p.v2 p.f.params∧SlS N w p.v3 p.f.body
 len _:=rfl
 mono _ hc h:=⟨h.1.imp hc,h.2.imp hc⟩
theorem OutK.params {B:Nat} {w:World} {v:Value} {ps:List Pa} (h:OutK kP B w v ps) (hn:ps.length≤281474976710656):SlP w.heap.size (mask (yd B) w) v ps:=by
 have:=h.read (fun p=>p) (F:=fun N W a g o=>RdP N W a g o) (fun N W p g o hc _=>⟨hc 0 _ rfl,hc 1 _ rfl⟩) hn;rw[List.map_id']at this;refine⟨this,fun A n c hv=>?_⟩;rcases h.1.2 with⟨rfl,h0⟩ | ⟨g,cap,cur,rfl,h1,h2,h3,h4,h5,h6⟩
 · injection hv with _ e1 e2
   omega
 · injection hv with _ e1 e2
   omega
theorem OutK.arrays {B:Nat} {w:World} {v:Value} {ps:List Ar} (h:OutK kA B w v ps) (hn:ps.length≤281474976710656):SlA w.heap.size (mask (yd B) w) v ps:=by
 have:=h.read (fun p=>p) (F:=fun N W a g o=>RdA N W a g o) (fun N W p g o hc _=>⟨hc 0 _ rfl,hc 1 _ rfl⟩) hn;rwa [List.map_id']at this
theorem OutK.funcs {B:Nat} {w:World} {v:Value} {ps:List FuV} (h:OutK kF B w v ps) (hn:ps.length≤281474976710656):SlF w.heap.size (mask (yd B) w) v (ps.map (·.f)):=
 OutK.read (β:=FuV) (α:=Fu) (K:=kF) FuV.f (F:=fun N W a g o=>RdF N W a g o) (fun N W p g o hc (hi:SlP N W p.v2 p.f.params∧SlS N W p.v3 p.f.body)=>⟨hc 0 _ rfl,hc 1 _ rfl,⟨_,hc 2 _ rfl,hi.1⟩,⟨_,hc 3 _ rfl,hi.2⟩⟩) h hn
theorem pa_info:(Tryz.prog.info? 47).map (fun i=>(i.zero,i.size,i.bytes))=some (some (.agg #[.string ⟨#[]⟩,.int .i64 0]),2,24):=by kernel_rfl
theorem ar_info:(Tryz.prog.info? 62).map (fun i=>(i.zero,i.size,i.bytes))=some (some (.agg #[.string ⟨#[]⟩,.int .i64 0]),2,24):=by kernel_rfl
theorem fu_info:(Tryz.prog.info? 45).map (fun i=>(i.zero,i.size,i.bytes))=some (some (.agg #[.string ⟨#[]⟩,.int .i64 0,.slice none 0 0,.slice none 0 0]),4,72):=by kernel_rfl
theorem jP {P:Program} {ops:Array Oper} {o:Oper} {a:Act} {w:World} {K:Act→World→Prop} {Q:Exit→Act→World→Prop} {E:Prop} (hgd:o.guard=none) (s x:Operand) (t:TypeId)
 (ho:o.op=.call { callee:=.builtin .append,args:=#[s,x],argTypes:=#[t,t] })
 (base:Nat) (e:TypeId) (i:TypeInfo) (z:Value) (size bytes:Nat) (ht:P.underlying t=some (.slice e)) (hi:P.info? e=some i) (hz:i.zero=some z)
 (hsize:i.size=size) (hby:i.bytes=bytes) (hzs:z.cells.size=size) (hsz:0<size)
 (v:Value) (n:Nat) (xs:List Value) (hs:a.eval s=v) (hown:w.ownsRow base e size v n xs)
 (ad:Addr) (m c:Nat) (news:List Value) (hx:a.eval x=.slice (some ad) m c) (hl:news.length=m * size) (hnews:∀ j u,news[j]? =some u→w.cell? (ad.add j)=some u) (h1:∀ u ∈ news,u.oneCell'=true)
 (h63:n+m≤maxLen) (hbytes:(n+m) * bytes≤140737488355328) (hbase:base≤w.heap.size) (hm:0<m)
 (h:∀ v' w',w'.ownsRow base e size v' (n+m) (xs++news)→w.grownBy w' v.ownBlock→xA w v v'→K (a.put o.dst v') w'):
 if Region.wanted o (yielded ops a.tmps)=true then Oper.wp P o a w K Q else E:=by
 have hw:Region.wanted o (yielded ops a.tmps)=true:=by simp[Region.wanted,hgd]
 rw[if_pos hw];obtain⟨v',w',hr,h2,h3,_⟩:=run_append_own (P:=P) w base t o.type e i z size bytes ht hi hz hsize hby hzs hsz v n xs hown ad m c news hl hnews h1 h63 hbytes hbase;have h4:=append_at ht hi hz hsize hby hzs hsz hown hl hnews h1 h63 hbytes hm hr;have hk:=h v' w' h2 h3 h4;unfold Oper.wp execOp;simp only[ho,resolve,invoke,builtin,Sem.run_bind,Sem.run_pure,Result.andThen_ok,List.map_toArray,List.map_cons,List.map_nil,hs,hx,hr];exact hk
mutual
def kN:St→Nat
 | .mk _ _ _ _ thn els=>1+cntSs thn+cntSs els
def cntSs:List St→Nat
 | []=>0
 | s :: r=>kN s+cntSs r
end
theorem cntSs_drop {l:List St} {j:Nat} {k ty:Int} {name:ByteArray} {args:List Ex} {thn els:List St} (h:l[j]? =some (.mk k ty name args thn els)):cntSs (l.drop j)=1+cntSs thn+cntSs els+cntSs (l.drop (j+1)):=by
 rw[jv h,cntSs,kN]
theorem zAb {P:Program} {w:World} (base:Nat) (t ty e:TypeId) (i:TypeInfo) (size:Nat) (ht:P.underlying t=some (.slice e)) (hi:P.info? e=some i)
 (v:Value) (n:Nat) (xs:List Value) (hown:w.ownsRow base e size v n xs) (c:Nat):
 (Builtin.append_ #[t,t] ty #[v,.slice none 0 c]).run P w=.ok v w:=by
 rcases hown.2 with⟨rfl,rfl⟩ | ⟨g,cap,cur,rfl,_,_,hnc,_⟩
 · simp[Builtin.append_,run_underlying ht,sizeOf,typeInfo,hi,Builtin.lenOf,Builtin.firstCells]
 · simp[Builtin.append_,run_underlying ht,sizeOf,typeInfo,hi,Builtin.lenOf,Builtin.firstCells,hnc,storeCells]
theorem vO {P:Program} {w:World} {ops:Array Oper} {rest:List Oper} {o:Oper} {a:Act} {Q:Exit→Act→World→Prop} (hgd:o.guard=none) (s x:Operand) (t:TypeId)
 (ho:o.op=.call { callee:=.builtin .append,args:=#[s,x],argTypes:=#[t,t] })
 (base:Nat) (e:TypeId) (i:TypeInfo) (size:Nat) (ht:P.underlying t=some (.slice e)) (hi:P.info? e=some i)
 (v:Value) (n:Nat) (xs:List Value) (hs:a.eval s=v) (hown:w.ownsRow base e size v n xs) (c:Nat) (hx:a.eval x=.slice none 0 c)
 (h:wpList P ops Q rest (a.put o.dst v) w):wpList P ops Q (o :: rest) a w:=by
 refine wpList_plain hgd fun K hK=>?_
 have hrun:=zAb (P:=P) (w:=w) base t o.type e i size ht hi v n xs hown c;unfold Oper.wp;simp[execOp,ho,resolve,invoke,builtin,hs,hx,hrun,Result.andThen];exact hK _ _ h
theorem kY {P:Program} {w:World} {ops:Array Oper} {rest:List Oper} {o:Oper} {a:Act} {Q:Exit→Act→World→Prop} (hgd:o.guard=none) (s x:Operand) (t:TypeId)
 (ho:o.op=.call { callee:=.builtin .append,args:=#[s,x],argTypes:=#[t,t] })
 (base:Nat) (e:TypeId) (i:TypeInfo) (z:Value) (size bytes:Nat) (ht:P.underlying t=some (.slice e)) (hi:P.info? e=some i) (hz:i.zero=some z)
 (hsize:i.size=size) (hby:i.bytes=bytes) (hzs:z.cells.size=size) (hsz:0<size)
 (v:Value) (n:Nat) (xs:List Value) (hs:a.eval s=v) (hown:w.ownsRow base e size v n xs)
 (A:Option Addr) (m c:Nat) (news:List Value) (hx:a.eval x=.slice A m c) (hl:news.length=m * size) (hA:A=none→m=0) (hnews:∀ ad,A=some ad→∀ j u,news[j]? =some u→w.cell? (ad.add j)=some u) (h1:∀ u ∈ news,u.oneCell'=true)
 (h63:n+m≤maxLen) (hbytes:(n+m) * bytes≤140737488355328) (hbase:base≤w.heap.size)
 (h:∀ v' w',w'.ownsRow base e size v' (n+m) (xs++news)→w.grownBy w' v.ownBlock→wpList P ops Q rest (a.put o.dst v') w'):wpList P ops Q (o :: rest) a w:=by
 cases A with
 | none=>
   obtain rfl:=hA rfl;obtain rfl:news=[]:=List.eq_nil_of_length_eq_zero (by rw[hl];omega);refine vO hgd s x t ho base e i size ht hi v n xs hs hown c hx (h v w ?_ (World.grownBy.refl w _));rw[List.append_nil];exact hown
 | some ad=>exact wpList_append_own _ hgd s x t ho base e i z size bytes ht hi hz hsize hby hzs hsz v n xs hs hown ad m c news hx hl (hnews ad rfl) h1 h63 hbytes hbase fun v' w' h2 h3 _=>h v' w' h2 h3
structure BEnv (B b:Nat) (p:Pr) (vars:List Pa) (v0 v1 v:Value) (w:World):Prop where
 hB:B≤w.heap.size
 hBb:B≤b
 hb:b<w.heap.size
 ha:SlA B w v0 p.arrays
 hf:SlF B w v1 p.funcs
 hv:SlP w.heap.size (hole b w) v vars
theorem BEnv.off {B b:Nat} {p:Pr} {vars:List Pa} {v0 v1 v:Value} {w w':World} (h:BEnv B b p vars v0 v1 v w) (ho:OffB b w.heap.size w w'):BEnv B b p vars v0 v1 v w' where
 hB:=Nat.le_trans h.hB ho.size
 hBb:=h.hBb
 hb:=Nat.lt_of_lt_of_le h.hb ho.size
 ha:=h.ha.below (qt ho h.hB h.hBb) Zr
 hf:=h.hf.below (qt ho h.hB h.hBb) Zr
 hv:=h.hv.below ho ho.size
theorem BEnv.below {B b:Nat} {p:Pr} {vars:List Pa} {v0 v1 v:Value} {w w':World} (h:BEnv B b p vars v0 v1 v w) (ho:Below w.heap.size w w'):BEnv B b p vars v0 v1 v w':=h.off (OffB.of_below ho h.hb)
theorem BEnv.renv {B b:Nat} {p:Pr} {vars:List Pa} {v0 v1 v:Value} {w:World} (h:BEnv B b p vars v0 v1 v w):REnv w.heap.size p vars v0 v1 v w where
 hB:=Nat.le_refl _
 ha:=h.ha.below Zb h.hB
 hf:=h.hf.below Zb h.hB
 hv:=h.hv.imp fun _ _ _ hc=>CellB.unhole hc
theorem BEnv.form {B b:Nat} {p:Pr} {vars:List Pa} {v0 v1 v:Value} {w:World} (h:BEnv B b p vars v0 v1 v w):∃ A0 c0 A1 c1 A2 c2,v0=.slice A0 p.arrays.length c0∧v1=.slice A1 p.funcs.length c1∧v=.slice A2 vars.length c2:=h.renv.form
theorem kD {base b:Nat} {w:World} {v:Value} {l:List Pa} (h:w.ownsRow base 47 2 v l.length (l.flatMap kP.cs)) (hb:b<base) (hl:l.length≤281474976710656):SlP w.heap.size (hole b w) v l:=by
 have h1:SlP w.heap.size (mask (yd base) w) v l:=OutK.params (B:=base) ⟨h,fun _ _=>trivial⟩ hl;refine h1.imp fun g o u hc=>?_
 obtain⟨hq,hc⟩:=zn hc;have hg:g≠b:=by have:=qG.1 hq;omega
 exact⟨hc.1,(World.cell?_of_block (w:=w) (w':=hole b w) (jb w hg)).trans hc.2⟩
theorem pars_cells {B:Nat} {w:World}:∀ (l:List Pa) (g o:Nat),xn 2 (RdP B w) l g o→∀ j u,(l.flatMap kP.cs)[j]? =some u→w.cell? ⟨g,o+j,none⟩=some u
 | [],_,_,_,j,u,h=>by simp at h
 | x :: r,g,o,hr,j,u,h=>by
   rw[List.flatMap_cons]at h
   match j with
   | 0=>simp[kP]at h;subst h;exact hr.1.1.2
   | 1=>simp[kP]at h;subst h;exact hr.1.2.2
   | j+2=>
     have:=pars_cells r g (o+2) hr.2 j u (by simpa[kP] using h);rw[show o+(j+2)=o+2+j by omega];exact this
theorem par_one (l:List Pa):∀ u ∈ l.flatMap kP.cs,u.oneCell'=true:=fun u hu=>by
 obtain⟨x,_,hx⟩:=List.mem_flatMap.1 hu;simp[kP]at hx;rcases hx with rfl | rfl <;> rfl
theorem pars_len (l:List Pa):(l.flatMap kP.cs).length=l.length * 2:=by
 induction l with
 | nil=>rfl
 | cons x r ih=>rw[List.flatMap_cons,List.length_append,ih,List.length_cons];show 2+_=_;omega
theorem xX (l:List Pa) (s:ByteArray) (t:Int):(l++[(⟨s,t⟩:Pa)]).flatMap kP.cs=l.flatMap kP.cs++[.string s,.int .i64 t]:=by
 rw[List.flatMap_append];rfl
structure Rst (B b:Nat) (p:Pr) (vX:List Pa) (v0 v1 v:Value) (fs:ByteArray) (ft:Int) (v2 v3:Value) (n:Nat) (w:World) (m:Nat) (so:Obj) (thn els:List St) (v4 v5:Value) (W:World):Prop where
 off:OffB b w.heap.size w W
 row:W.heap[b]? =some (rckO v0 v1 fs ft v2 v3 (W64 n))
 env:BEnv B b p vX v0 v1 v W
 box:W.heap[m]? =some so
 s4:SlS B W v4 thn
 s5:SlS B W v5 els
 own:W.ownsRow w.heap.size 47 2 v vX.length (vX.flatMap kP.cs)
 ne:m≠b
 hb:b<w.heap.size
section
variable {B b:Nat} {p:Pr} {vX:List Pa} {v0 v1 v:Value} {fs:ByteArray} {ft:Int} {v2 v3:Value} {n:Nat} {w:World} {m:Nat} {so:Obj} {thn els:List St} {v4 v5:Value} {W W':World}
theorem Rst.step (h:Rst B b p vX v0 v1 v fs ft v2 v3 n w m so thn els v4 v5 W) (ho:OffB b W.heap.size W W') {n':Nat} (hb:W'.heap[b]? =some (rckO v0 v1 fs ft v2 v3 (W64 n'))):Rst B b p vX v0 v1 v fs ft v2 v3 n' w m so thn els v4 v5 W' where
 off:=h.off.trans (ho.mono h.off.size)
 row:=hb
 env:=h.env.off ho
 box:=(ho.block (zB h.box) h.ne).trans h.box
 s4:=h.s4.below (qt ho h.env.hB h.env.hBb) Zr
 s5:=h.s5.below (qt ho h.env.hB h.env.hBb) Zr
 own:=z7 h.own fun g hg=>ho.block (zM h.own g hg).2 (by have:=(zM h.own g hg).1;have:=h.hb;omega)
 ne:=h.ne
 hb:=h.hb
theorem Rst.set (h:Rst B b p vX v0 v1 v fs ft v2 v3 n w m so thn els v4 v5 W):Rst B b p vX v0 v1 v fs ft v2 v3 (n+1) w m so thn els v4 v5 (W.setCell ⟨b,6,none⟩ (.int .i64 (W64 (n+1)))):=
 h.step ((OffB.refl b _ W).setb (zB h.row) 6 _) (Lib.heap_setCell_same h.row _)
end
theorem pa_info2:(Tryz.prog.info? 47).map (fun i=>(i.zero,i.size,i.bytes))=some (some (.agg #[.string ⟨#[]⟩,.int .i64 0]),2,24):=by kernel_rfl
def BlPost (b:Nat) (w:World) (v0 v1:Value) (fs:ByteArray) (ft:Int) (v2 v3:Value) (R:Int × Nat) (e:Ending) (w':World):Prop:=
 e=.returned (.int .i64 R.1)∧OffB b w.heap.size w w'∧w'.heap[b]? =some (rckO v0 v1 fs ft v2 v3 (W64 R.2))
def BlC (m:Nat):Prop:=∀ (B b:Nat) (p:Pr) (vars:List Pa) (l:List St) (loop:Bool) (n:Nat) (R:Int × Nat) (vl v0 v1 v:Value) (fs:ByteArray) (ft:Int) (v2 v3:Value) (w:World),
 z8 l m=true→ui p→zd p ft l vars vars.length loop n=R→BEnv B b p vars v0 v1 v w→w.heap[b]? =some (rckO v0 v1 fs ft v2 v3 (W64 n))→SlS B w vl l→vars.length+cntSs l≤1000000000→
 Calls Tryz.prog 31 #[.pointer (some ⟨b,0,none⟩),vl,v,.bool loop] w (BlPost b w v0 v1 fs ft v2 v3 R)
theorem BlC.call {m:Nat} (h:BlC m) {B b:Nat} {p:Pr} {vars:List Pa} {l:List St} {loop:Bool} {n:Nat} {R:Int × Nat} {vl v0 v1 v:Value} {fs:ByteArray} {ft:Int} {v2 v3:Value} {w:World}
 (h1:z8 l m=true) (h2:ui p) (h3:zd p ft l vars vars.length loop n=R) (h4:BEnv B b p vars v0 v1 v w) (h7:w.heap[b]? =some (rckO v0 v1 fs ft v2 v3 (W64 n))) (h8:SlS B w vl l) (h9:vars.length+cntSs l≤1000000000):
 Calls Tryz.prog 31 #[.pointer (some ⟨b,0,none⟩),vl,v,.bool loop] w (BlPost b w v0 v1 fs ft v2 v3 R):=h B b p vars l loop n R vl v0 v1 v fs ft v2 v3 w h1 h2 h3 h4 h7 h8 h9
end Go.Proofs.YtfghofifjnbicaaGreatDoor
