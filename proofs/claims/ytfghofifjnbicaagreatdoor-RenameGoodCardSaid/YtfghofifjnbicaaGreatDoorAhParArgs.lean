import Derived.Test.YtfghofifjnbicaaGreatDoorAhZed
import Derived.Test.YtfghofifjnbicaaGreatDoorAhTokScan
import Derived.Laws.AppendOwn
import Derived.Test.YtfghofifjnbicaaGreatDoorAhParOp
set_option linter.unusedSimpArgs false
set_option linter.unusedVariables false
set_option maxRecDepth 100000
/- The document's parser: expressions up to a bracket. -/
namespace Go.Proofs.YtfghofifjnbicaaGreatDoor
open Lib (hid)
open Go.RowKit
def xA (w:World) (v v':Value):Prop:=v'.ownBlock=v.ownBlock∨∃ g,v'.ownBlock=some g∧w.heap.size≤g
theorem append_at {P:Program} {w:World} {base:Nat} {t ty e:TypeId} {i:TypeInfo} {z:Value} {size bytes:Nat} (ht:P.underlying t=some (.slice e)) (hi:P.info? e=some i) (hz:i.zero=some z)
 (hsize:i.size=size) (hby:i.bytes=bytes) (hzs:z.cells.size=size) (hsz:0<size)
 {v:Value} {n:Nat} {xs:List Value} (hown:w.ownsRow base e size v n xs)
 {a:Addr} {m c:Nat} {news:List Value} (hl:news.length=m * size) (hnews:∀ j u,news[j]? =some u→w.cell? (a.add j)=some u) (h1:∀ u ∈ news,u.oneCell'=true)
 (h63:n+m≤maxLen) (hbytes:(n+m) * bytes≤140737488355328) (hm:0<m) {v':Value} {w':World}
 (hr:(Builtin.append_ #[t,t] ty #[v,.slice (some a) m c]).run P w=.ok v' w'):xA w v v':=by
 subst hsize hby;rcases hown.2 with⟨rfl,rfl⟩ | ⟨g,cap,cur,rfl,hbg,hg,hnc,hcm,hcs,htake⟩
 · have h2:=run_append_nil (P:=P) w t ty e i z ht hi hz a m c news hl hnews (by omega) (by simp only[maxLen]at h63;omega) (by have hb:=hbytes;simp only[Nat.zero_add]at hb;omega)
   rw[h2]at hr;injection hr with e1 _;subst e1;exact .inr ⟨_,rfl,Nat.le_refl _⟩
 · by_cases hroom:n+m≤cap
   · have h2:=run_append_room (P:=P) w t ty e i ht hi g n cap cur hg a m c news hl hnews h1 hroom (by rw[hl,hcs,←Nat.add_mul];exact Nat.mul_le_mul_right _ hroom)
     rw[h2]at hr;injection hr with e1 _;subst e1;exact .inl rfl
   · have h2:=run_append_grow (P:=P) w t ty e i z ht hi hz ⟨g,0,none⟩ n cap xs hown.1 (hown.cells (g:=g) rfl) a m c news hl hnews (by omega) (by simp only[maxLen]at h63;omega) (growslice_fits (by simp only[maxLen]at h63;omega) hbytes)
     rw[h2]at hr;injection hr with e1 _;subst e1;exact .inr ⟨_,rfl,Nat.le_refl _⟩
theorem zw {P:Program} {w:World} {ops:Array Oper} {rest:List Oper} {o:Oper} {a:Act} {Q:Exit→Act→World→Prop} (hgd:o.guard=none) (s x:Operand) (t:TypeId)
 (ho:o.op=.call { callee:=.builtin .append,args:=#[s,x],argTypes:=#[t,t] })
 (base:Nat) (e:TypeId) (i:TypeInfo) (z:Value) (size bytes:Nat) (ht:P.underlying t=some (.slice e)) (hi:P.info? e=some i) (hz:i.zero=some z)
 (hsize:i.size=size) (hby:i.bytes=bytes) (hzs:z.cells.size=size) (hsz:0<size)
 (v:Value) (n:Nat) (xs:List Value) (hs:a.eval s=v) (hown:w.ownsRow base e size v n xs)
 (ad:Addr) (m c:Nat) (news:List Value) (hx:a.eval x=.slice (some ad) m c) (hl:news.length=m * size) (hnews:∀ j u,news[j]? =some u→w.cell? (ad.add j)=some u) (h1:∀ u ∈ news,u.oneCell'=true)
 (h63:n+m≤maxLen) (hbytes:(n+m) * bytes≤140737488355328) (hbase:base≤w.heap.size) (hm:0<m)
 (h:∀ v' w',w'.ownsRow base e size v' (n+m) (xs++news)→w.grownBy w' v.ownBlock→xA w v v'→wpList P ops Q rest (a.put o.dst v') w'):wpList P ops Q (o :: rest) a w:=by
 refine wpList_plain hgd fun K hK=>?_
 obtain⟨v',w',hr,h2,h3,_⟩:=run_append_own (P:=P) w base t o.type e i z size bytes ht hi hz hsize hby hzs hsz v n xs hown ad m c news hl hnews h1 h63 hbytes hbase;have h4:=append_at ht hi hz hsize hby hzs hsz hown hl hnews h1 h63 hbytes hm hr;have hk:=hK _ _ (h v' w' h2 h3 h4);unfold Oper.wp execOp;simp only[ho,resolve,invoke,builtin,Sem.run_bind,Sem.run_pure,Result.andThen_ok,List.map_toArray,List.map_cons,List.map_nil,hs,hx,hr];exact hk
def exCs (ps:List (Ex × Value)):List Value:=ps.flatMap fun p=>[.int .i64 p.1.kind,.int .i64 p.1.op,.int .i64 p.1.n,.string p.1.name,p.2]
theorem exCs_snoc (ps:List (Ex × Value)) (p:Ex × Value):exCs (ps++[p])=exCs ps++[.int .i64 p.1.kind,.int .i64 p.1.op,.int .i64 p.1.n,.string p.1.name,p.2]:=by simp[exCs]
def xR (B:Nat) (v:Value):Nat→Bool:=fun k=>decide (k<B) || v.ownBlock == some k
theorem zx {B k:Nat} {v:Value}:xR B v k=false↔B≤k∧v.ownBlock≠some k:=by
 unfold xR;simp[Bool.or_eq_false_iff]
def xi (B:Nat) (w:World) (v:Value) (acc:List Ex):Prop:=
 ∃ ps:List (Ex × Value),ps.map (·.1)=acc∧w.ownsRow B 116 5 v ps.length (exCs ps)∧∀ p ∈ ps,vw p.1.n∧qw w.heap.size (mask (xR B v) w) p.2 p.1.args
theorem xi.nil (B:Nat) (w:World):xi B w (.slice none 0 0) []:=⟨[],rfl,World.ownsRow_nil w B _ 5,fun p hp=>by cases hp⟩
theorem xi.form {B:Nat} {w:World} {v:Value} {acc:List Ex} (h:xi B w v acc):∃ A c,v=.slice A acc.length c:=by
 obtain⟨ps,rfl,ho,_⟩:=h;rw[List.length_map];exact zj ho
theorem xi.own {B:Nat} {w:World} {v:Value} {acc:List Ex} (h:xi B w v acc):∀ k,v.ownBlock=some k→k<w.heap.size∧B≤k:=by
 obtain⟨ps,_,ho,_⟩:=h;exact qJ ho
theorem qw.mask {p q:Nat→Bool} {w w':World} {v:Value} {l:List Ex} (h:qw w.heap.size (_root_.Go.Proofs.YtfghofifjnbicaaGreatDoor.mask p w) v l) (hs:w.heap.size≤w'.heap.size) (hk:∀ k,k<w.heap.size→p k=false→q k=false∧w'.heap[k]? =w.heap[k]?):qw w'.heap.size (_root_.Go.Proofs.YtfghofifjnbicaaGreatDoor.mask q w') v l:=by
 refine h.imp fun g o u hc=>?_
 obtain⟨hp,hc⟩:=zn hc;obtain⟨hq,he⟩:=hk g hc.1 hp;exact zy hq ⟨Nat.lt_of_lt_of_le hc.1 hs,(World.cell?_of_block (w:=w) he).trans hc.2⟩
theorem xi.keep {B:Nat} {w w':World} {v:Value} {acc:List Ex} (h:xi B w v acc) (k:zD B w w'):xi B w' v acc:=by
 have hown:=h.own;obtain⟨ps,ha,ho,hp⟩:=h;refine⟨ps,ha,qR ho fun j hj=>k.2 j (hown j hj).1 (hown j hj).2,fun p hm=>⟨(hp p hm).1,(hp p hm).2.mask k.1 fun j hj hq=>⟨hq,k.2 j hj (zx.1 hq).1⟩⟩⟩
theorem xi.app {B L:Nat} {w W w':World} {v v':Value} {acc:List Ex} {e:Ex} {k op n:Int} {s:ByteArray} {u:Value} (h:xi B w v acc) (he:jc L w e (.agg #[.int .i64 k,.int .i64 op,.int .i64 n,.string s,u])) (hB:B≤L) (hL:∀ k,v.ownBlock=some k→k<L)
 (hW:Below w.heap.size w W) (hg:W.grownBy w' v.ownBlock) (hr:xA W v v') (ho:w'.ownsRow B 116 5 v' (acc.length+1) ((exCs (Classical.choose h))++[.int .i64 k,.int .i64 op,.int .i64 n,.string s,u])):xi B w' v' (acc++[e]):=by
 obtain⟨hps,hown,hp⟩:=Classical.choose_spec h;generalize Classical.choose h=ps at *;obtain⟨args,rfl,hn,hs⟩:=exV_at he;have hsz:w.heap.size≤w'.heap.size:=Nat.le_trans hW.size hg.size
 have hblk:∀ j,j<w.heap.size→v.ownBlock≠some j→v'.ownBlock≠some j∧w'.heap[j]? =w.heap[j]?:=fun j hj hne=>by
  refine⟨fun hc=>?_,(hg.block j (Nat.lt_of_lt_of_le hj hW.size) (fun e=>hne e.symm)).trans (hW.block j hj)⟩;rcases hr with h1 | ⟨g,h1,h2⟩
  · exact hne (h1 ▸ hc)
  · rw[h1]at hc
    injection hc with hc;have:=hW.size;omega
 refine⟨ps++[(.mk k op n s args,u)],by rw[List.map_append,hps];rfl,?_,fun p hm=>?_⟩
 · rw[exCs_snoc,List.length_append,show ps.length=acc.length by rw[←hps,List.length_map]]
   exact ho
 · rcases List.mem_append.1 hm with hm | hm
   · refine⟨(hp p hm).1,(hp p hm).2.mask hsz fun j hj hq=>?_⟩
     obtain⟨h1,h2⟩:=zx.1 hq;obtain⟨h3,h4⟩:=hblk j hj h2;exact⟨zx.2 ⟨h1,h3⟩,h4⟩
   · obtain rfl:=List.mem_singleton.1 hm
     refine⟨hn,qw.mask hs hsz fun j hj hq=>?_⟩;have hjL:=qG.1 hq;obtain⟨h3,h4⟩:=hblk j hj (fun hc=>by have:=hL j hc;omega);exact⟨zx.2 ⟨by omega,h3⟩,h4⟩
theorem rdEs_of {N:Nat} {W:World} {g:Nat}:∀ (ps:List (Ex × Value)) (o:Nat),(∀ j u,(exCs ps)[j]? =some u→CellB N W g (o+j) u)→(∀ p ∈ ps,vw p.1.n∧qw N W p.2 p.1.args)→jM N W (ps.map (·.1)) g o
 | [],_,_,_=>by
   show jM N W [] g _;rw[jM];trivial
 | p :: r,o,hc,hp=>by
   show jM N W (p.1 :: r.map (·.1)) g o;have e:exCs (p :: r)=.int .i64 p.1.kind :: .int .i64 p.1.op :: .int .i64 p.1.n :: .string p.1.name :: p.2 :: exCs r:=by simp[exCs]
   rw[e]at hc;rw[jM];refine⟨?_,rdEs_of r (o+5) (fun j u hj=>?_) fun q hq=>hp q (List.mem_cons_of_mem _ hq)⟩
   · obtain⟨hn,hs⟩:=hp p (List.mem_cons_self ..)
     obtain⟨⟨k,op,n,nm,args⟩,u⟩:=p;rw[RdE];exact⟨hc 0 _ rfl,hc 1 _ rfl,hc 2 _ rfl,hc 3 _ rfl,hn,u,hc 4 _ rfl,hs⟩
   · have:=hc (j+5) u (by simpa using hj)
     rw[show o+5+j=o+(j+5) by omega];exact this
theorem xi.read {B:Nat} {w:World} {v:Value} {acc:List Ex} (h:xi B w v acc) (hn:acc.length≤281474976710656):zU B w acc v:=by
 obtain⟨ps,rfl,ho,hp⟩:=h
 have hsub:∀ g o u,CellB w.heap.size (mask (xR B v) w) g o u→CellB w.heap.size (mask (yd B) w) g o u:=fun g o u hc=>by
  obtain⟨hq,hc⟩:=zn hc;exact zy (qG.2 (zx.1 hq).1) hc
 rcases ho.2 with⟨rfl,h0⟩ | ⟨g,cap,cur,rfl,h1,h2,h3,h4,h5,h6⟩
 · have:ps=[]:=List.eq_nil_of_length_eq_zero h0
   subst this;exact xq _ _
 · refine⟨_,cap,?_,?_,fun _=>⟨g,0,rfl,?_⟩⟩
   · rw[List.length_map]
   · exact hn
   · have hglt:g<w.heap.size:=(Array.getElem?_eq_some_iff.1 h2).1
     refine rdEs_of ps 0 (fun j u hj=>?_) fun p hm=>⟨(hp p hm).1,(hp p hm).2.imp hsub⟩
     refine zy (qG.2 h1) ⟨hglt,?_⟩;rw[Nat.zero_add,cell_of_row w g j cur _ (0,0) h2];rw[←h6,List.getElem?_take]at hj;split at hj
     · simpa using hj
     · cases hj
theorem ex_info:(Tryz.prog.info? 116).map (fun i=>(i.zero,i.size,i.bytes))=some (some ex0V,5,64):=by kernel_rfl
def xG (b:Nat) (w:World):Nat:=match w.cell? ⟨b,1,none⟩ with | some (.int _ k)=>k.toNat | _=>0
theorem qk {b:Nat} {V:Value} {all r:List Tok} {bd dp:Bool} {w:World} (h:zS b V all r bd dp w):xG b w=all.length-r.length:=by
 unfold xG;rw[h.cells.2.1];exact Int.toNat_natCast _
def firstN:Value→Nat
 | .bool true=>1
 | _=>0
def xw (m:Nat) (d:Int) (acc:List Ex) (r:List Tok):PR (List Ex):=if z6 [44] r=true then pAL m d acc r.tail else (zL [41] r).bind fun _ r=>.ok acc r
def ArgB (b:Nat) (V:Value) (all:List Tok) (w:World) (T:PR (List Ex)) (n:Nat) (d:Int) (ov:Value) (wr:World):Prop:=
 ∃ (m:Nat) (acc:List Ex) (y:PR Unit),m≤n∧xi w.heap.size wr ov acc∧qY b V all w y wr∧T=y.bind (fun _ r=>xw m d acc r)∧(zg y=false→acc.length≤xG b wr)∧acc.length≤2000000
def ArgRel (b:Nat) (V:Value) (all:List Tok) (w:World) (T:PR (List Ex)) (n:Nat) (d:Int) (r0:List Tok) (ov fv:Value) (wr:World):Prop:=
 (fv=.bool true∧ov=.slice none 0 0∧qY b V all w (.ok () r0) wr)∨(fv=.bool false∧ArgB b V all w T n d ov wr)
theorem args_over {b:Nat} {V:Value} {all:List Tok} {x:PR Unit} {w:World} (h:qx b V all x w) (ho:zg x=true) (d:Int):
 Calls Tryz.prog 113 #[.pointer (some ⟨b,0,none⟩),.int .i64 d] w fun e w'=>e=.returned (.slice none 0 0)∧qY b V all w x w':=by
 have HD:=hid (show qY b V all w x w from⟨h,OffB.refl _ _ _⟩);have HO:=hid ho;have HV:=hid (show zP (⟨#[41]⟩:ByteArray).data.toList x=false by cases x with | ok u r=>cases ho | _=>rfl);have HM:=hid (show (x.bind fun _ r=>zL (⟨#[41]⟩:ByteArray).data.toList r)=x by cases x with | ok u r=>cases ho | _=>rfl);clear h ho;go_enter Tryz.func113,Tryz.ntmps113
 go_wp2_with (first
  | (go_at_call 42;(with_reducible refine(zF HD.out.st _ HV.out).mono ?_);rintro e w1 ⟨rfl,hD⟩;replace HD:=hid (HD.out.after hD);clear hD))
 go_loopw [5,6] (fun ov fv wr=>ov=.slice none 0 0∧fv=.bool true∧qY b V all w x wr) (fun _ _ _=>0)
 case atStart=>exact⟨rfl,rfl,HD.out⟩
 case round=>
  obtain⟨rfl,rfl,hD⟩:=hrel;replace HD:=hid hD;clear hD
  go_wp2_with (first
   | (go_at_call 39;(with_reducible refine(zl HD.out.st true HO.out).mono ?_);rintro e w1 ⟨rfl,rfl⟩)
   | (go_at_call 44;(with_reducible refine(zW HD.out.st _).mono ?_);rintro e w2 ⟨rfl,hD⟩;rw[HM.out]at hD;replace HD:=hid (HD.out.after hD);clear hD))
  go_ret;exact⟨rfl,HD.out⟩
theorem ut {B:Nat} {w:World} {v:Value} {acc:List Ex} (h:xi B w v acc) (c0 c1 c2 c3 c4:Value) (hB:B≤w.heap.size):
 (w.alloc (.cells #[c0,c1,c2,c3,c4] 116)).ownsRow B 116 5 v acc.length (exCs (Classical.choose h))∧
 (∀ j u,[c0,c1,c2,c3,c4][j]? =some u→(w.alloc (.cells #[c0,c1,c2,c3,c4] 116)).cell? ((⟨w.heap.size,0,none⟩:Addr).add j)=some u)∧B≤(w.alloc (.cells #[c0,c1,c2,c3,c4] 116)).heap.size:=by
 obtain⟨hps,hown,hp⟩:=Classical.choose_spec h;refine⟨?_,fun j u hu=>?_,by rw[zA];omega⟩
 · have e:(Classical.choose h).length=acc.length:=by rw[←List.length_map (f:=(·.1)),hps]
   rw[e]at hown;exact qy hown ((Below.refl w.heap.size w).alloc Zr _) Zr
 · rw[show (⟨w.heap.size,0,none⟩:Addr).add j=⟨w.heap.size,j,none⟩ by unfold Addr.add;split <;> simp_all]
   exact(cell_of_row _ w.heap.size j _ _ (0,0) (heap_alloc_new w _)).trans (by simpa using hu)
def uu (b:Nat) (V:Value) (all:List Tok) (w w':World) (q:Nat) (d:Int) (acc:List Ex) (r:List Tok) (v':Value):Prop:=
 ∃ (acc':List Ex) (y:PR Unit),xi w.heap.size w' v' acc'∧qY b V all w y w'∧pAL (q+1) d acc r=y.bind (fun _ r=>xw q d acc' r)∧(zg y=false→acc'.length≤xG b w')∧acc'.length≤2000000∧all.length-r.length≤xG b w'
theorem uv {q:Nat} {d:Int} {acc:List Ex} {r:List Tok}:pAL (q+1) d acc r=(pE q 1 d r).bind fun e r=>xw q d (acc++[e]) r:=by rw[pAL];rfl
theorem vj {b:Nat} {V:Value} {all:List Tok} {w w2 w':World} {q:Nat} {d:Int} {acc:List Ex} {r:List Tok} {v v':Value} {L:Nat} {k op n:Int} {s:ByteArray} {u:Value}
 (hO:xi w.heap.size w2 v acc) (hD:qY b V all w ((PR.ok () r).bind fun _ r=>pE q 1 d r).un w2) (hG:qn ((PR.ok () r).bind fun _ r=>pE q 1 d r) fun a=>jc L w2 a (.agg #[.int .i64 k,.int .i64 op,.int .i64 n,.string s,u])) (hF:zY 1 r (pE q 1 d r))
 (hg:(w2.alloc (.cells #[.int .i64 k,.int .i64 op,.int .i64 n,.string s,u] 116)).grownBy w' v.ownBlock) (hr:xA (w2.alloc (.cells #[.int .i64 k,.int .i64 op,.int .i64 n,.string s,u] 116)) v v')
 (ho:w'.ownsRow w.heap.size 116 5 v' (acc.length+1) ((exCs (Classical.choose hO))++[.int .i64 k,.int .i64 op,.int .i64 n,.string s,u])) (hL:∀ k,v.ownBlock=some k→k<L) (hBL:w.heap.size≤L) (hrl:r.length≤all.length)
 (hacc:acc.length≤1000000) (hat:acc.length≤all.length-r.length) (ht:vy b V all w) (hbw:b<w.heap.size):uu b V all w w' q d acc r v':=by
 have hal:Below w2.heap.size w2 (w2.alloc (.cells #[.int .i64 k,.int .i64 op,.int .i64 n,.string s,u] 116)):=Zb.alloc Zr _
 have hmove:∀ x,qY b V all w x w2→qY b V all w x w':=fun x hx=>by
  have h1:=hx.alloc (.cells #[.int .i64 k,.int .i64 op,.int .i64 n,.string s,u] 116)
  have hob:v.ownBlock≠some b:=fun e=>by
   have h3:=(hO.own b e).2;omega
  have hoff:OffB b w.heap.size w w':=h1.off.trans (OffB.mk' hg.os hg.tape hg.output hg.size h1.st.lt fun j hj hjb=>hg.block j (by have:=h1.off.size;omega) (fun e=>by
   have:=(hO.own j e.symm).2
   omega))
  exact⟨h1.st.move ht hoff (hg.block b h1.st.lt (fun e=>hob e.symm)),hoff⟩
 have hD2:=hmove _ hD;cases hx:pE q 1 d r with
 | ok e r2=>
   have hx':((PR.ok () r).bind fun _ r=>pE q 1 d r)=.ok e r2:=hx;rw[hx']at hG hD2;rw[hx]at hF;have hF':zH 1 r r2:=hF;have hp:zS b V all r2 false false w':=hD2.st;have hao:=qk hp;have hl:=hF'.2.2;refine⟨acc++[e],.ok () r2,hO.app hG hBL hL hal hg hr ho,hD2,by rw[uv,hx];rfl,fun _=>?_,?_,?_⟩
   · rw[hao,List.length_append]
     simp;omega
   · rw[List.length_append]
     simp;omega
   · rw[hao]
     omega
 | bad r2=>
   have hx':((PR.ok () r).bind fun _ r=>pE q 1 d r)=.bad r2:=hx;rw[hx']at hG hD2;rw[hx]at hF;have hF':zH 0 r r2:=hF;have hp:zS b V all r2 true false w':=hD2.st;have hao:=qk hp;have hl:=hF'.2.2;obtain⟨e,he⟩:=hG;refine⟨acc++[e],.bad r2,hO.app he hBL hL hal hg hr ho,hD2,by rw[uv,hx];rfl,(fun h=>by cases h),?_,?_⟩
   · rw[List.length_append]
     simp;omega
   · rw[hao]
     omega
 | deep r2=>
   have hx':((PR.ok () r).bind fun _ r=>pE q 1 d r)=.deep r2:=hx;rw[hx']at hG hD2;rw[hx]at hF;have hF':zH 0 r r2:=hF;have hp:zS b V all r2 false true w':=hD2.st;have hao:=qk hp;have hl:=hF'.2.2;obtain⟨e,he⟩:=hG;refine⟨acc++[e],.deep r2,hO.app he hBL hL hal hg hr ho,hD2,by rw[uv,hx];rfl,(fun h=>by cases h),?_,?_⟩
   · rw[List.length_append]
     simp;omega
   · rw[hao]
     omega
 | out=>
   have hx':((PR.ok () r).bind fun _ r=>pE q 1 d r)=.out:=hx;rw[hx']at hD2;exact absurd hD2.st id
theorem uu.rel {b:Nat} {V:Value} {all:List Tok} {w w':World} {q n:Nat} {d:Int} {acc:List Ex} {r:List Tok} {v':Value} {T:PR (List Ex)} (h:uu b V all w w' q d acc r v') (hq:q≤n) (hT:T=pAL (q+1) d acc r):ArgB b V all w T n d v' w':=by
 obtain⟨acc',y,h1,h2,h3,h4,h5,_⟩:=h;exact⟨q,acc',y,hq,h1,h2,hT.trans h3,h4,h5⟩
theorem uu.at {b:Nat} {V:Value} {all:List Tok} {w w':World} {q:Nat} {d:Int} {acc:List Ex} {r:List Tok} {v':Value} (h:uu b V all w w' q d acc r v'):all.length-r.length≤xG b w':=by
 obtain⟨acc',y,h1,h2,h3,h4,h5,h6⟩:=h;exact h6
theorem kn {b:Nat} {V:Value} {all r:List Tok} {w w':World} (h:qY b V all w (.ok () r) w'):xG b w'=all.length-r.length∧r.length≤all.length∧all.length≤1000000∧ze r∧0<r.length:=by
 have hp:zS b V all r false false w':=h.st;obtain⟨_,⟨_,_,_,_,_,_,hl,_⟩,hs,he⟩:=hp;exact⟨qk h.st,suffix_len hs,hl,he,he.pos⟩
theorem arg_end {m:Nat} {d:Int} {acc:List Ex} {y:PR Unit} (hx:zP [44] y=false):y.bind (fun _ r=>xw m d acc r)=y.bind fun _ r=>(zL [41] r).bind fun _ r=>.ok acc r:=by
 cases y with
 | ok u r=>
   show xw m d acc r=_;unfold xw;rw[if_neg (by rw[show z6 [44] r=false from hx];decide)];rfl
 | _=>rfl
theorem arg_gave {b:Nat} {V:Value} {all:List Tok} {w W:World} {y:PR Unit} {acc:List Ex} {v:Value} {L:Nat} (hD:qY b V all w (y.bind fun _ r=>zL [41] r) W) (hv:zU L W acc v):
 qF b V all w (y.bind fun _ r=>(zL [41] r).bind fun _ r=>.ok acc r) (zU L) (.returned v) W:=by
 refine⟨v,rfl,?_,?_⟩
 · rw[qr]
   simp only[jz];exact hD
 · cases y with
   | ok u r=>exact xe hv
   | bad r=>exact⟨acc,hv⟩
   | deep r=>exact⟨acc,hv⟩
   | out=>trivial
theorem args_live {b:Nat} {V:Value} {all r:List Tok} {w:World} {n:Nat} {d:Int} (hE:∀ m,m≤n→CE b V all m 1 d) (h:zS b V all r false false w) (hn:zG (pA (n+1) d r)):
 Calls Tryz.prog 113 #[.pointer (some ⟨b,0,none⟩),.int .i64 d] w (qF b V all w (pA (n+1) d r) (zU w.heap.size)):=by
 have HD:=hid (show qY b V all w (.ok () r) w from⟨h,OffB.refl _ _ _⟩);have hlt0:=h.lt;have HTK:=hid h.2.1;cases hs:z6 [41] r with
 | true=>
   have ex:pA (n+1) d r=.ok [] r.tail:=by rw[pA,if_pos hs]
   rw[ex];have HV:=hid (show zP (⟨#[41]⟩:ByteArray).data.toList (PR.ok () r)=true from hs);clear h hn hs ex;go_enter Tryz.func113,Tryz.ntmps113
   go_wp2_with (first
    | (go_at_call 42;(with_reducible refine(zb HD.out.st _ HV.out).mono ?_);rintro e w1 ⟨rfl,hD⟩;replace HD:=hid (HD.out.after hD);clear hD))
   go_ret;exact⟨_,rfl,HD.out,xq _ _⟩
 | false=>
   have ex:pA (n+1) d r=pAL n d [] r:=by rw[pA,if_neg (by rw[hs];decide)]
   rw[ex]at hn ⊢;have HV:=hid (show zP (⟨#[41]⟩:ByteArray).data.toList (PR.ok () r)=false from hs);have HN:=hid hn;have HE:=hid hE;clear h hn hs ex hE;go_enter Tryz.func113,Tryz.ntmps113
   go_wp2_with (first
    | (go_at_call 42;(with_reducible refine(zF HD.out.st _ HV.out).mono ?_);rintro e w1 ⟨rfl,hD⟩;replace HD:=hid (HD.out.after hD);clear hD))
   go_loopw [5,6] (fun ov fv wr=>ArgRel b V all w (pAL n d [] r) n d r ov fv wr) (fun _ fv wr=>2 * (all.length-xG b wr)+firstN fv)
   case atStart=>exact .inl ⟨rfl,rfl,HD.out⟩
   case round=>
    obtain⟨i0,hi0,hz0,hz1,hz2⟩:=info_parts ex_info;have HI0:=hid (And.intro hi0 (And.intro hz0 (And.intro hz1 hz2)));clear hi0 hz0 hz1 hz2;rcases hrel with⟨rfl,rfl,hD⟩ | ⟨rfl,m,acc,y,hmn,hO,hD,hT,hacc,hac2⟩
    · replace HD:=hid hD
      have HD0:=hid hD;obtain⟨hat,hrl,hal,hen,hrp⟩:=kn hD
      obtain⟨q,rfl⟩:∃ q,n=q+1:=by
       cases n with
       | zero=>have:=HN.out;rw[pAL]at this;exact absurd this id
       | succ q=>exact⟨q,rfl⟩
      have hacc:([]:List Ex).length≤1000000:=by simp
      obtain⟨acc,hac⟩:∃ acc:List Ex,acc=[]:=⟨_,rfl⟩
      rw[←hac]at hacc;have hacl:acc.length=0:=by rw[hac];rfl
      have HT:=hid (show pAL (q+1) d [] r=pAL (q+1) d acc r by rw[hac]);have HO:=hid (show xi w.heap.size wr (.slice none 0 0) acc by rw[hac];exact xi.nil _ _);have HN2:=hid (show zG ((PR.ok () r).bind fun _ r=>pE q 1 d r) by have h1:=HN.out;rw[uv]at h1;exact zo h1);have HF:=hid (qQ (n:=q) (lev:=1) (d:=d) hen);have HAT:=hid hat;clear hD hat hac hen;go_wp2_with
      (first
        | (go_at_call 39;(with_reducible refine(zl HD.out.st false rfl).mono ?_);rintro e w1 ⟨rfl,rfl⟩)
        | (go_at_call 97;(with_reducible refine((HE.out q (by omega)).call HD.out.st HN2.out).mono ?_);rintro e w2 ⟨v,rfl,hD,hG⟩
           obtain⟨k1,k2,k3,k4,k5,k6,k7,rfl⟩:=qS hG HN2.out;have HG:=hid hG;have HO2:=hid (HO.out.keep (zD.did hD hlt0));have HLT:=hid HO.out.own;replace HD:=hid (HD.out.after hD);have HPRE:=hid (ut HO2.out (.int .i64 k1) (.int .i64 k2) (.int .i64 k3) (.string k4) (.slice k5 k6 k7) (by have:=HD.out.off.size;omega))
           clear hD hG)
        | (at_builtin;refine zw rfl (.tmp 19) (.tmp 23) _ rfl w.heap.size 116 i0 _ 5 64 Tryz.underlying86 HI0.out.1 HI0.out.2.1 HI0.out.2.2.1 HI0.out.2.2.2 rfl (by omega) (.slice none 0 0) acc.length _ rfl (by exact HPRE.out.1) ⟨w2.heap.size,0,none⟩ 1 1 [.int .i64 k1,.int .i64 k2,.int .i64 k3,.string k4,.slice k5 k6 k7] rfl rfl (by exact HPRE.out.2.1) (by simp[Value.oneCell']) (by simp only[maxLen];omega) (by omega) (by exact HPRE.out.2.2) (by omega) ?_;intro v1 w3 hown1 hg1 hr1;have HO1:=hid hown1;have HG1:=hid hg1;have HR1:=hid hr1;clear hown1 hg1 hr1))
      go_roundw
      case rel=>
       exact .inr ⟨rfl,(vj (d:=d) HO2.out HD.out HG.out HF.out HG1.out HR1.out HO1.out (fun k hk=>(HLT.out k hk).1) (by have:=HD0.out.off.size;omega) (by omega) hacc (by omega) HTK.out hlt0).rel (n:=q+1) (by omega) HT.out⟩
      case measure=>
       have h1:=(vj (d:=d) HO2.out HD.out HG.out HF.out HG1.out HR1.out HO1.out (fun k hk=>(HLT.out k hk).1) (by have:=HD0.out.off.size;omega) (by omega) hacc (by omega) HTK.out hlt0).at;have h2:=HAT.out;simp[firstN];omega
    · obtain⟨hbb,hx⟩:∃ v:Bool,zP [44] y=v:=⟨_,rfl⟩
      cases hbb with
      | true=>
        obtain⟨r1,rfl,hs1⟩:=yc hx;obtain⟨hat,hrl,hal,hen,hrp⟩:=kn hD
        have hTT:pAL n d [] r=pAL m d acc r1.tail:=by
         rw[hT];show xw m d acc r1=_;unfold xw;rw[if_pos hs1]
        obtain⟨q,rfl⟩:∃ q,m=q+1:=by
         cases m with
         | zero=>have:=HN.out;rw[hTT,pAL]at this;exact absurd this id
         | succ q=>exact⟨q,rfl⟩
        have hacc1:=hacc rfl;rw[hat]at hacc1;have htl:=jB hen;have HAT:=hid hat;have HV4:=hid (show zP (⟨#[44]⟩:ByteArray).data.toList (PR.ok () r1)=true from hs1);have hen2:=hen.sign hs1;obtain⟨r2,hr2⟩:∃ r2,r2=r1.tail:=⟨_,rfl⟩
        rw[←hr2]at hTT htl hen2;have HRT:=hid hr2;have HT:=hid hTT;have HN2:=hid (show zG ((PR.ok () r2).bind fun _ r=>pE q 1 d r) by have h1:=HN.out;rw[hTT,uv]at h1;exact zo h1);have HF:=hid (qQ (n:=q) (lev:=1) (d:=d) hen2);have HO:=hid hO;replace HD:=hid hD;obtain⟨A0,c0,rfl⟩:=hO.form;have hacc:acc.length≤1000000:=by omega
        clear hD hO hT hTT hat hx hs1 hen hen2 hr2;go_wp2_with
        (first
          | (go_at_call 39;(with_reducible refine(zl HD.out.st false rfl).mono ?_);rintro e w1 ⟨rfl,rfl⟩)
          | (go_at_call 42;(with_reducible refine(zb HD.out.st _ HV4.out).mono ?_);rintro e w1 ⟨rfl,hD⟩
             have hD3:qY b V all wr (.ok () r2) w1:=by rw[HRT.out];exact hD
             replace HO:=hid (HO.out.keep (zD.did hD3 hlt0));replace HD:=hid (HD.out.after hD3);have HD0:=HD
             clear hD hD3)
          | (go_at_call 97;(with_reducible refine((HE.out q (by omega)).call HD.out.st HN2.out).mono ?_);rintro e w2 ⟨v,rfl,hD,hG⟩
             obtain⟨k1,k2,k3,k4,k5,k6,k7,rfl⟩:=qS hG HN2.out;have HG:=hid hG;have HO2:=hid (HO.out.keep (zD.did hD hlt0));have HLT:=hid HO.out.own;replace HD:=hid (HD.out.after hD);have HPRE:=hid (ut HO2.out (.int .i64 k1) (.int .i64 k2) (.int .i64 k3) (.string k4) (.slice k5 k6 k7) (by have:=HD.out.off.size;omega))
             clear hD hG)
          | (at_builtin;refine zw rfl (.tmp 19) (.tmp 23) _ rfl w.heap.size 116 i0 _ 5 64 Tryz.underlying86 HI0.out.1 HI0.out.2.1 HI0.out.2.2.1 HI0.out.2.2.2 rfl (by omega) (.slice A0 acc.length c0) acc.length _ rfl (by exact HPRE.out.1) ⟨w2.heap.size,0,none⟩ 1 1 [.int .i64 k1,.int .i64 k2,.int .i64 k3,.string k4,.slice k5 k6 k7] rfl rfl (by exact HPRE.out.2.1) (by simp[Value.oneCell']) (by simp only[maxLen];omega) (by omega) (by exact HPRE.out.2.2) (by omega) ?_;intro v1 w3 hown1 hg1 hr1;have HO1:=hid hown1;have HG1:=hid hg1;have HR1:=hid hr1;clear hown1 hg1 hr1))
        go_roundw
        case rel=>
         exact .inr ⟨rfl,(vj (d:=d) HO2.out HD.out HG.out HF.out HG1.out HR1.out HO1.out (fun k hk=>(HLT.out k hk).1) (by have:=HD0.out.off.size;omega) (by omega) hacc (by omega) HTK.out hlt0).rel (n:=n) (by omega) HT.out⟩
        case measure=>
         have h1:=(vj (d:=d) HO2.out HD.out HG.out HF.out HG1.out HR1.out HO1.out (fun k hk=>(HLT.out k hk).1) (by have:=HD0.out.off.size;omega) (by omega) hacc (by omega) HTK.out hlt0).at;have h2:=HAT.out;simp[firstN];omega
      | false=>
        have HV4:=hid (show zP (⟨#[44]⟩:ByteArray).data.toList y=false from hx);have hTT:=hT.trans (arg_end (m:=m) (d:=d) (acc:=acc) hx);have HT:=hid hTT;have HO:=hid hO;replace HD:=hid hD;obtain⟨A0,c0,rfl⟩:=hO.form;clear hD hO hT hTT hx hacc
        go_wp2_with (first
         | (go_at_call 42;(with_reducible refine(zF HD.out.st _ HV4.out).mono ?_);rintro e w1 ⟨rfl,hD⟩
            replace HO:=hid (HO.out.keep (zD.did hD hlt0));replace HD:=hid (HD.out.after hD)
            clear hD)
         | (go_at_call 44;(with_reducible refine(zW HD.out.st _).mono ?_);rintro e w2 ⟨rfl,hD⟩
            replace HO:=hid (HO.out.keep (zD.did hD hlt0));replace HD:=hid (HD.out.after hD)
            clear hD))
        go_ret;rw[HT.out];exact arg_gave HD.out (HO.out.read (by omega))
theorem args_any {b:Nat} {V:Value} {all:List Tok} {n:Nat} {d:Int} (hE:∀ m,m≤n→CE b V all m 1 d):CA b V all (n+1) d:=by
 intro w x h hn;cases x with
 | ok u r=>exact args_live hE h hn
 | bad r=>exact(args_over h rfl d).mono fun e w' ⟨he,hD⟩=>⟨_,he,hD,[],xq _ _⟩
 | deep r=>exact(args_over h rfl d).mono fun e w' ⟨he,hD⟩=>⟨_,he,hD,[],xq _ _⟩
 | out=>exact absurd h id
theorem expr_top {b:Nat} {V:Value} {all:List Tok} {n:Nat} {d:Int} (hU:CU b V all n d):CE b V all (n+1) 11 d:=by
 intro w x h hn
 have e1:(x.bind fun _ r=>pE (n+1) 11 d r)=x.bind fun _ r=>pU n d r:=by
  cases x with
  | ok u r=>show pE (n+1) 11 d r=pU n d r;rw[pE,if_pos (by decide)]
  | _=>rfl
 rw[e1]at hn ⊢;have HC:=hid (jS.start h);have HN:=hid hn;have HU:=hid hU;clear h hn hU e1;go_enter Tryz.func97,Tryz.ntmps97
 go_wp2_with (first
  | (go_at_call 111;(with_reducible refine(HU.out.call HC.out.st HN.out).mono ?_);rintro e w2 ⟨v,rfl,hD,hG⟩
     obtain⟨k1,k2,k3,k4,k5,k6,k7,rfl⟩:=qS hG HN.out;have hz1:=HC.out.size;have HG:=hid hG;replace HC:=hid (HC.out.step hD);clear hD hG
     obtain⟨⟨c0,c1,c2,c3,c4⟩,fz⟩:=HC.out.own))
 obtain⟨f0,f1,f2,f3,f4⟩:=HC.out.read (.int .i64 k1) (.int .i64 k2) (.int .i64 k3) (.string k4) (.slice k5 k6 k7);refine bodyPost_ret (v:=.agg #[.int .i64 k1,.int .i64 k2,.int .i64 k3,.string k4,.slice k5 k6 k7]) (by simp[results,Tryz.results97,go_sem,f0,f1,f2,f3,f4]) rfl ?_;exact HC.out.fin rfl (HG.out.imp fun a ha=>jc.writ ha hz1 _ _ _ _ _)
def aMask (L g:Nat):Nat→Bool:=fun k=>decide (k<L) || k == g
theorem vM {L g k:Nat}:aMask L g k=false↔L≤k∧k≠g:=by
 unfold aMask;simp[Bool.or_eq_false_iff]
def Holds (L g:Nat) (w:World) (a:Ex):Prop:=
 ∃ k o n s A m c,w.heap[g]? =some (.cells #[.int .i64 k,.int .i64 o,.int .i64 n,.string s,.slice A m c] 116 (0,0))∧vx w.heap.size (mask (aMask L g) w) a (.agg #[.int .i64 k,.int .i64 o,.int .i64 n,.string s,.slice A m c])
def ExprRel (b:Nat) (V:Value) (all:List Tok) (w:World) (T:PR Ex) (n:Nat) (lev d:Int) (g:Nat) (wr:World):Prop:=
 ∃ (m:Nat) (a:Ex) (y:PR Unit),m≤n∧jS b V all w y wr∧Holds (w.heap.size+1) g wr a∧T=y.bind fun _ r=>pL m lev d a r
theorem xx {L:Nat} {w2:World} {a:Ex} {k o n:Int} {s:ByteArray} {A:Option Addr} {m c:Nat} (h:jc L w2 a (.agg #[.int .i64 k,.int .i64 o,.int .i64 n,.string s,.slice A m c])):
 Holds L w2.heap.size (w2.alloc (.cells #[.int .i64 k,.int .i64 o,.int .i64 n,.string s,.slice A m c] 116)) a:=by
 refine⟨k,o,n,s,A,m,c,heap_alloc_new w2 _,?_⟩;refine h.imp fun g o u hc=>?_
 obtain⟨hp,hc⟩:=zn hc;have hg:=hc.1;refine zy (vM.2 ⟨qG.1 hp,by omega⟩) ⟨by simp;omega,?_⟩;exact(World.cell?_of_block (w:=w2) (Below.heap_alloc w2 _ g hg)).trans hc.2
theorem expr_start {b:Nat} {V:Value} {all:List Tok} {w w2:World} {X:PR Ex} {n:Nat} {lev d:Int} {k o q:Int} {s:ByteArray} {A:Option Addr} {m c:Nat} (hC:jS b V all w X.un w2)
 (hG:qn X fun a=>jc (w.alloc xI).heap.size w2 a (.agg #[.int .i64 k,.int .i64 o,.int .i64 q,.string s,.slice A m c])):
 ExprRel b V all w (X.bind fun a r=>pL n lev d a r) n lev d w2.heap.size (w2.alloc (.cells #[.int .i64 k,.int .i64 o,.int .i64 q,.string s,.slice A m c] 116)):=by
 have hL:(w.alloc xI).heap.size=w.heap.size+1:=zA _ _;rw[hL]at hG;cases X with
 | ok a r=>exact⟨n,a,.ok () r,Nat.le_refl _,hC.alloc _,xx hG,rfl⟩
 | bad r=>
   obtain⟨a,ha⟩:=hG;exact⟨n,a,.bad r,Nat.le_refl _,hC.alloc _,xx ha,rfl⟩
 | deep r=>
   obtain⟨a,ha⟩:=hG;exact⟨n,a,.deep r,Nat.le_refl _,hC.alloc _,xx ha,rfl⟩
 | out=>exact absurd hC.st id
theorem expr_end {lev d:Int} {y:PR Unit} {T:PR Ex} {m:Nat} {a:Ex} (ho:opX lev y=0) (hT:T=y.bind fun _ r=>pL m lev d a r) (hn:zG T):T.un=y∧∀ P:Ex→Prop,P a→qn T P:=by
 subst hT;cases y with
 | ok u r=>
   cases m with
   | zero=>exact absurd (show zG (pL 0 lev d a r) from hn) (by rw[pL];exact id)
   | succ m=>
     have e:pL (m+1) lev d a r=.ok a r:=by rw[pL,if_pos (show opAt lev r=0 from ho)]
     show (pL (m+1) lev d a r).un=_∧_;have e2:((PR.ok u r).bind fun _ r=>pL (m+1) lev d a r)=.ok a r:=e;rw[e2,e];exact⟨rfl,fun P hP=>hP⟩
 | bad r=>exact⟨rfl,fun P hP=>⟨a,hP⟩⟩
 | deep r=>exact⟨rfl,fun P hP=>⟨a,hP⟩⟩
 | out=>exact absurd hn id
theorem holds_end {b g:Nat} {V:Value} {all:List Tok} {w wr w3:World} {x:PR Unit} {a:Ex} {v:Value} {c0 c1 c2 c3 c4:Value} (h:vx wr.heap.size (mask (aMask (w.heap.size+1) g) wr) a v) (hD:qY b V all wr x w3) (hb:b<wr.heap.size) (hbw:b≤w.heap.size):
 jc w.heap.size (writ w3 w.heap.size c0 c1 c2 c3 c4) a v:=by
 refine h.imp fun k o u hc=>?_
 obtain⟨hp,hc⟩:=zn hc;obtain⟨h1,h2⟩:=vM.1 hp;refine zy (qG.2 (by omega)) ⟨?_,?_⟩
 · rw[kJ]
   exact Nat.lt_of_lt_of_le hc.1 hD.off.size
 · refine(World.cell?_of_block (w:=wr) ?_).trans hc.2
   exact(uS (show k≠w.heap.size by omega) _ _ _ _ _).trans (hD.off.block hc.1 (by omega))
theorem opX_ok {lev o:Int} {y:PR Unit} (h:opX lev y=o) (ho:¬ o=0):∃ r,y=.ok () r∧opAt lev r=o:=by
 cases y with
 | ok u r=>exact⟨r,rfl,h⟩
 | bad r=>exact absurd h.symm ho
 | deep r=>exact absurd h.symm ho
 | out=>exact absurd h.symm ho
theorem cur_next {b:Nat} {V:Value} {all r:List Tok} {w W:World} {kk:Int} (h:jS b V all w (.ok () r) W) (hk:yn r≠3) (hkk:((all.length-r.length:Nat):Int)=kk):jS b V all w (.ok () r.tail) (W.setCell ⟨b,1,none⟩ (.int .i64 (kk+1))):=by
 have hp:zS b V all r false false W:=h.st;have h2:=hp.next hk;rw[hkk]at h2;exact h.step ⟨h2,(OffB.refl b _ W).setb hp.lt 1 _⟩
theorem cur_at {b:Nat} {V:Value} {all r:List Tok} {w W:World} {kk:Int} (h:jS b V all w (.ok () r) W) (hkk:((all.length-r.length:Nat):Int)=kk):W.cell? ⟨b,1,none⟩=some (.int .i64 kk)∧W.frozen? ⟨b,1,none⟩=false:=by
 have hp:zS b V all r false false W:=h.st;exact⟨hkk ▸ hp.cells.2.1,hp.1.frozen 1⟩
theorem row_off {b g:Nat} {W:World} {o:Obj} (h:W.heap[g]? =some o) (hg:g≠b) (u:Value):(W.setCell ⟨b,1,none⟩ u).heap[g]? =some o:=(Below.heap_setCell W _ u g (by show g≠b;exact hg)).trans h
theorem expr_round {b g:Nat} {V:Value} {all r:List Tok} {w wr w3 w5:World} {x:PR Unit} {a:Ex} {T:PR Ex} {q:Nat} {lev d o kk:Int} {k1 k2 k3 j1 j2 j3:Int} {k4 j4:ByteArray} {A0 A1:Option Addr} {m0 q0 m1 q1:Nat}
 (hV:vx wr.heap.size (mask (aMask (w.heap.size+1) g) wr) a (.agg #[.int .i64 k1,.int .i64 k2,.int .i64 k3,.string k4,.slice A0 m0 q0])) (hD:qY b V all wr x w3)
 (hD5:qY b V all (w3.setCell ⟨b,1,none⟩ (.int .i64 (kk+1))) ((PR.ok () r).bind fun _ r=>pE q (lev+1) d r).un w5) (hC:jS b V all w ((PR.ok () r).bind fun _ r=>pE q (lev+1) d r).un w5) (hrow:w5.heap[g]? =some (.cells #[.int .i64 k1,.int .i64 k2,.int .i64 k3,.string k4,.slice A0 m0 q0] 116 (0,0)))
 (hG:qn ((PR.ok () r).bind fun _ r=>pE q (lev+1) d r) fun e=>jc (w3.setCell ⟨b,1,none⟩ (.int .i64 (kk+1))).heap.size w5 e (.agg #[.int .i64 j1,.int .i64 j2,.int .i64 j3,.string j4,.slice A1 m1 q1]))
 (hT:T=(pE q (lev+1) d r).bind fun e r=>pL q lev d (.mk 5 o 0 bE [a,e]) r) (hgr:g<wr.heap.size) (hwr:w.heap.size<wr.heap.size) (hgb:g≠b) (hbw:b<w.heap.size) (hgw:w.heap.size<g):
 (∀ n,q≤n→ExprRel b V all w T n lev d g (((nest w5 g (.int .i64 5) (.int .i64 o) (.int .i64 0) (.string ⟨#[]⟩) (.slice (some ⟨w5.heap.size+1,0,none⟩) 2 2)).alloc (.cells #[.int .i64 j1,.int .i64 j2,.int .i64 j3,.string j4,.slice A1 m1 q1] 116)).alloc (.cells #[.int .i64 k1,.int .i64 k2,.int .i64 k3,.string k4,.slice A0 m0 q0,.int .i64 j1,.int .i64 j2,.int .i64 j3,.string j4,.slice A1 m1 q1] 116)))∧
 qY b V all w ((PR.ok () r).bind fun _ r=>pE q (lev+1) d r).un (((nest w5 g (.int .i64 5) (.int .i64 o) (.int .i64 0) (.string ⟨#[]⟩) (.slice (some ⟨w5.heap.size+1,0,none⟩) 2 2)).alloc (.cells #[.int .i64 j1,.int .i64 j2,.int .i64 j3,.string j4,.slice A1 m1 q1] 116)).alloc (.cells #[.int .i64 k1,.int .i64 k2,.int .i64 k3,.string k4,.slice A0 m0 q0,.int .i64 j1,.int .i64 j2,.int .i64 j3,.string j4,.slice A1 m1 q1] 116)):=by
 obtain⟨W,hW⟩:∃ W,W=(((nest w5 g (.int .i64 5) (.int .i64 o) (.int .i64 0) (.string ⟨#[]⟩) (.slice (some ⟨w5.heap.size+1,0,none⟩) 2 2)).alloc (.cells #[.int .i64 j1,.int .i64 j2,.int .i64 j3,.string j4,.slice A1 m1 q1] 116)).alloc (.cells #[.int .i64 k1,.int .i64 k2,.int .i64 k3,.string k4,.slice A0 m0 q0,.int .i64 j1,.int .i64 j2,.int .i64 j3,.string j4,.slice A1 m1 q1] 116)):=⟨_,rfl⟩
 rw[←hW];have hCW:jS b V all w ((PR.ok () r).bind fun _ r=>pE q (lev+1) d r).un W:=hW ▸ (((hC.nest hgw _ _ _ _ _).alloc _).alloc _);have hns:(nest w5 g (.int .i64 5) (.int .i64 o) (.int .i64 0) (.string ⟨#[]⟩) (.slice (some ⟨w5.heap.size+1,0,none⟩) 2 2)).heap.size=w5.heap.size:=kJ _ _ _ _ _ _ _;have hWs:W.heap.size=w5.heap.size+2:=by rw[hW,zA,zA,hns]
 have hg5:g<w5.heap.size:=(Array.getElem?_eq_some_iff.1 hrow).1;have h35:w3.heap.size≤w5.heap.size:=by have:=hD5.off.size;rw[ji]at this;exact this
 have hr3:wr.heap.size≤w3.heap.size:=hD.off.size
 have hold5:∀ k,k<w5.heap.size→k≠g→W.heap[k]? =w5.heap[k]?:=fun k hk hne=>by
  rw[hW,Below.heap_alloc _ _ _ (by rw[zA,hns];omega),Below.heap_alloc _ _ _ (by rw[hns];exact hk)];exact uS hne _ _ _ _ _
 have holdr:∀ k,k<wr.heap.size→k≠g→k≠b→W.heap[k]? =wr.heap[k]?:=fun k hk hne hnb=>by
  rw[hold5 k (by omega) hne,hD5.off.block (by rw[ji];omega) hnb,Below.heap_setCell _ _ _ _ (by show k≠b;exact hnb),hD.off.block hk hnb]
 have hWg:W.heap[g]? =some (.cells #[.int .i64 5,.int .i64 o,.int .i64 0,.string ⟨#[]⟩,.slice (some ⟨w5.heap.size+1,0,none⟩) 2 2] 116 (0,0)):=by
  rw[hW];exact zc (zc (uf hrow _ _ _ _ _) _) _
 have hWrow:W.heap[w5.heap.size+1]? =some (.cells #[.int .i64 k1,.int .i64 k2,.int .i64 k3,.string k4,.slice A0 m0 q0,.int .i64 j1,.int .i64 j2,.int .i64 j3,.string j4,.slice A1 m1 q1] 116 (0,0)):=by
  have:=heap_alloc_new ((nest w5 g (.int .i64 5) (.int .i64 o) (.int .i64 0) (.string ⟨#[]⟩) (.slice (some ⟨w5.heap.size+1,0,none⟩) 2 2)).alloc (.cells #[.int .i64 j1,.int .i64 j2,.int .i64 j3,.string j4,.slice A1 m1 q1] 116)) (.cells #[.int .i64 k1,.int .i64 k2,.int .i64 k3,.string k4,.slice A0 m0 q0,.int .i64 j1,.int .i64 j2,.int .i64 j3,.string j4,.slice A1 m1 q1] 116);rw[zA,hns]at this;rw[hW];exact this
 have hhold:∀ e,jc (w3.setCell ⟨b,1,none⟩ (.int .i64 (kk+1))).heap.size w5 e (.agg #[.int .i64 j1,.int .i64 j2,.int .i64 j3,.string j4,.slice A1 m1 q1])→Holds (w.heap.size+1) g W (.mk 5 o 0 bE [a,e]):=fun e he=>by
  obtain⟨args,rfl,hn,hs⟩:=exV_at hV;obtain⟨args2,rfl,hn2,hs2⟩:=exV_at he;rw[ji]at hs2;refine⟨5,o,0,⟨#[]⟩,some ⟨w5.heap.size+1,0,none⟩,2,2,hWg,_,rfl,⟨by show (_:Int)≤0;decide,by show (0 :Int)≤_;decide⟩,?_⟩;refine slE_at2 (w:=mask (aMask (w.heap.size+1) g) W) ((uo (vM.2 ⟨by omega,by omega⟩)).trans hWrow) (by rw[hWs];omega) hn ?_ hn2 ?_
  · refine qw.mask (w':=W) hs (by omega) fun k hk hp=>⟨hp,?_⟩
    obtain⟨h1,h2⟩:=vM.1 hp;exact holdr k hk h2 (by omega)
  · refine qw.mask (w':=W) hs2 (by omega) fun k hk hp=>?_
    have h1:=qG.1 hp;exact⟨vM.2 ⟨by omega,by omega⟩,hold5 k hk (by omega)⟩
 refine⟨fun n hn=>?_,hCW.did⟩;cases hx:pE q (lev+1) d r with
 | ok e r2=>
   have hx':((PR.ok () r).bind fun _ r=>pE q (lev+1) d r)=.ok e r2:=hx;rw[hx']at hG hCW;exact⟨q,_,.ok () r2,hn,hCW,hhold e hG,by rw[hT,hx];rfl⟩
 | bad r2=>
   have hx':((PR.ok () r).bind fun _ r=>pE q (lev+1) d r)=.bad r2:=hx;rw[hx']at hG hCW;obtain⟨e,he⟩:=hG;exact⟨q,_,.bad r2,hn,hCW,hhold e he,by rw[hT,hx];rfl⟩
 | deep r2=>
   have hx':((PR.ok () r).bind fun _ r=>pE q (lev+1) d r)=.deep r2:=hx;rw[hx']at hG hCW;obtain⟨e,he⟩:=hG;exact⟨q,_,.deep r2,hn,hCW,hhold e he,by rw[hT,hx];rfl⟩
 | out=>
   have hx':((PR.ok () r).bind fun _ r=>pE q (lev+1) d r)=.out:=hx;rw[hx']at hCW;exact absurd hCW.st id
theorem meas_lt {N A X B:Nat} (h1:A≤X) (h2:N-A<N-B):N-X<N-B:=by omega
theorem expr_at {b:Nat} {V:Value} {all r:List Tok} {w W:World} {q:Nat} {lev d:Int} (hD:qY b V all w ((PR.ok () r).bind fun _ r=>pE q lev d r).un W) (hF:zY 1 r (pE q lev d r)) (hE:ze r):all.length-r.length≤xG b W:=by
 cases hx:pE q lev d r with
 | ok e r2=>
   have hx':((PR.ok () r).bind fun _ r=>pE q lev d r)=.ok e r2:=hx;rw[hx']at hD;rw[hx]at hF;have hp:zS b V all r2 false false W:=hD.st;have h1:=(show zH 1 r r2 from hF).2.2;rw[qk hp];omega
 | bad r2=>
   have hx':((PR.ok () r).bind fun _ r=>pE q lev d r)=.bad r2:=hx;rw[hx']at hD;rw[hx]at hF;have hp:zS b V all r2 true false W:=hD.st;have h1:=(show zH 0 r r2 from hF).2.2;rw[qk hp];omega
 | deep r2=>
   have hx':((PR.ok () r).bind fun _ r=>pE q lev d r)=.deep r2:=hx;rw[hx']at hD;rw[hx]at hF;have hp:zS b V all r2 false true W:=hD.st;have h1:=(show zH 0 r r2 from hF).2.2;rw[qk hp];omega
 | out=>
   have hx':((PR.ok () r).bind fun _ r=>pE q lev d r)=.out:=hx;rw[hx']at hD;exact absurd hD.st id
theorem expr_lev {b:Nat} {V:Value} {all:List Tok} {n:Nat} {lev d:Int} (hl1:1≤lev) (hl2:lev≤10) (hE:∀ m,m≤n→CE b V all m (lev+1) d):CE b V all (n+1) lev d:=by
 intro w x h hn
 have e1:(x.bind fun _ r=>pE (n+1) lev d r)=(x.bind fun _ r=>pE n (lev+1) d r).bind fun a r=>pL n lev d a r:=by
  cases x with
  | ok u r=>show pE (n+1) lev d r=_;rw[pE,if_neg (by omega)];rfl
  | _=>rfl
 rw[e1]at hn ⊢;have HC:=hid (jS.start h);have HNT:=hid hn;have HN:=hid (zo hn);have HE:=hid hE;have hbw:=h.lt;clear h hn hE e1;go_enter Tryz.func97,Tryz.ntmps97
 go_wp2_with (first
  | (go_at_call 97;(with_reducible refine((HE.out n Zr).call HC.out.st HN.out).mono ?_);rintro e w2 ⟨v,rfl,hD,hG⟩
     obtain⟨k1,k2,k3,k4,k5,k6,k7,rfl⟩:=qS hG HN.out;have hz1:=HC.out.size;have HG:=hid hG;replace HC:=hid (HC.out.step hD);have hz2:=HC.out.size
     clear hD hG))
 have HS:=hid (expr_start (n:=n) (lev:=lev) (d:=d) HC.out HG.out);have hb2:b<w2.heap.size:=HC.out.st.lt;obtain⟨T,hT⟩:∃ T,((x.bind fun _ r=>pE n (lev+1) d r).bind fun a r=>pL n lev d a r)=T:=⟨_,rfl⟩
 rw[hT]at HS HNT;have HTT:=hid hT;clear hT
 go_loopw [8] (fun _ wr=>ExprRel b V all w T n lev d w2.heap.size wr) (fun _ wr=>all.length-xG b wr)
 case atStart=>exact HS.out
 case round=>
  obtain⟨m,a,y,hmn,hC,⟨k1,k2,k3,k4,A0,m0,q0,hrow,hV⟩,hTy⟩:=hrel;replace HC:=hid hC;have HV:=hid hV;have HROW:=hid hrow;have HTY:=hid hTy;have hlt0:=hC.st.lt;obtain⟨o,ho⟩:∃ o,opX lev y=o:=⟨_,rfl⟩
  have HO:=hid ho;have hne:w2.heap.size≠b:=by omega
  have hzr:=HC.out.size;have hgr:w2.heap.size<wr.heap.size:=(Array.getElem?_eq_some_iff.1 hrow).1;clear hC hV hTy ho hrow;by_cases ho0:o=0
  · subst ho0
    go_wp2_with (first
     | (go_at_call 112;(with_reducible refine(op_any HC.out.st lev 0 HO.out).mono ?_);rintro e w3 ⟨rfl,hD⟩
        have HD:=hid hD;have hrow3:=qW hD.off hgr hne HROW.out;obtain⟨⟨p0,p1,p2,p3,p4⟩,pz⟩:=qK hrow3;replace HC:=hid (HC.out.step hD);clear hD hrow3
        obtain⟨⟨c0,c1,c2,c3,c4⟩,fz⟩:=HC.out.own))
    obtain⟨f0,f1,f2,f3,f4⟩:=HC.out.read (.int .i64 k1) (.int .i64 k2) (.int .i64 k3) (.string k4) (.slice A0 m0 q0);refine bodyPost_ret (v:=.agg #[.int .i64 k1,.int .i64 k2,.int .i64 k3,.string k4,.slice A0 m0 q0]) (by simp[results,Tryz.results97,go_sem,f0,f1,f2,f3,f4]) rfl ?_;rw[HTT.out];obtain⟨h1,h2⟩:=expr_end HO.out HTY.out HNT.out;exact HC.out.fin h1 (h2 _ (holds_end HV.out HD.out hlt0 (by omega)))
  · obtain⟨r,rfl,hro⟩:=opX_ok HO.out ho0
    obtain⟨q,rfl⟩:∃ q,m=q+1:=by
     cases m with
     | zero=>have h1:=HTY.out;have h2:=HNT.out;rw[h1]at h2;exact absurd (show zG (pL 0 lev d a r) from h2) (by rw[pL];exact id)
     | succ q=>exact⟨q,rfl⟩
    have hT2:T=(pE q (lev+1) d r.tail).bind fun e r=>pL q lev d (.mk 5 o 0 bE [a,e]) r:=by
     rw[HTY.out];show pL (q+1) lev d a r=_;rw[pL,hro,if_neg ho0]
    obtain⟨hat,hrl,hal,hen,hrp⟩:=kn HC.out.did;have hsg:∃ s,z6 s r=true:=xo (lev:=lev) (ops:=twos) (by show opAt lev r≠0;rw[hro];exact ho0);have hk3:yn r≠3:=by obtain⟨s,hs⟩:=hsg;rw[(vC hs).1];decide
    have HAT:=hid hat;have HEN:=hid (hen.tail hk3);have HK3:=hid hk3;replace HTY:=hid hT2;have HN2:=hid (show zG ((PR.ok () r.tail).bind fun _ r=>pE q (lev+1) d r) by have h2:=HNT.out;rw[hT2]at h2;exact zo h2);obtain⟨kk,hkk⟩:∃ kk:Int,((all.length-r.length:Nat):Int)=kk:=⟨_,rfl⟩
    have hk0:0≤kk∧kk≤1000000:=by omega
    obtain⟨hk00,hk01⟩:=hk0;have HKK:=hid hkk;have ho1:(o == 0)=false:=by simpa using ho0
    clear hro hT2 hat hen hsg hk3 ho0 hkk
    go_wp2_with (first
     | (go_at_call 112;(with_reducible refine(op_any HC.out.st lev o HO.out).mono ?_);rintro e w3 ⟨rfl,hD⟩
        have HD:=hid hD;have hrow3:=qW hD.off hgr hne HROW.out;replace HC:=hid (HC.out.step hD);have hN:=hid (cur_next HC.out HK3.out HKK.out);have HROW3:=hid (row_off hrow3 hne (.int .i64 (kk+1)));obtain⟨b1,fb⟩:=cur_at HC.out HKK.out
        clear hD hrow3)
     | (go_at_call 97;(with_reducible refine((HE.out q (by omega)).call hN.out.st HN2.out).mono ?_);rintro e w5 ⟨v,rfl,hD5,hG⟩
        obtain⟨j1,j2,j3,j4,A1,m1,q1,rfl⟩:=qS hG HN2.out;have HG:=hid hG;have hgs:w2.heap.size<(w3.setCell ⟨b,1,none⟩ (.int .i64 (kk+1))).heap.size:=(Array.getElem?_eq_some_iff.1 HROW3.out).1;have hrow5:=qW hD5.off hgs hne HROW3.out;have HROW5:=hid hrow5;obtain⟨⟨p0,p1,p2,p3,p4⟩,pz⟩:=qK hrow5;have HD5:=hid hD5;replace HC:=hid (hN.out.step hD5);have hg5:w2.heap.size<w5.heap.size:=(Array.getElem?_eq_some_iff.1 hrow5).1
        clear hD5 hG hrow5))
    have HX:=hid (expr_round (lev:=lev) (d:=d) HV.out HD.out HD5.out HC.out HROW5.out HG.out HTY.out (by omega) (by omega) hne hbw (by omega));have hfit:=qQ (n:=q) (lev:=lev+1) (d:=d) HEN.out;go_roundw
    case rel=>exact(HX.out.1 n (by omega))
    case measure=>
     have h1:=expr_at (HX.out.2) hfit HEN.out;have h2:=HAT.out;have h3:r.tail.length+1=r.length:=by rw[List.length_tail];omega
     clear HX hfit;exact meas_lt h1 (by omega)
def CO (b:Nat) (V:Value) (all:List Tok) (lev d:Int):Prop:=∀ (w:World) (x:PR Unit),qx b V all x w→zg x=true→
 Calls Tryz.prog 97 #[.pointer (some ⟨b,0,none⟩),.int .i64 lev,.int .i64 d] w (qF b V all w (x.bind fun _ _=>(.out:PR Ex)) (jc w.heap.size))
theorem CO.call {b:Nat} {V:Value} {all:List Tok} {lev d:Int} (h:CO b V all lev d) {w:World} {x:PR Unit} (hs:qx b V all x w) (ho:zg x=true):
 Calls Tryz.prog 97 #[.pointer (some ⟨b,0,none⟩),.int .i64 lev,.int .i64 d] w (qF b V all w (x.bind fun _ _=>(.out:PR Ex)) (jc w.heap.size)):=h w x hs ho
theorem vk {α:Type} {x:PR Unit} (ho:zg x=true) (f g:Unit→List Tok→PR α):x.bind f=x.bind g:=by
 cases x with
 | ok u r=>cases ho
 | _=>rfl
theorem over_ends {α:Type} {b:Nat} {V:Value} {all:List Tok} {x:PR Unit} {w:World} (h:qx b V all x w) (ho:zg x=true) (f:Unit→List Tok→PR α):zG (x.bind f):=by
 cases x with
 | ok u r=>cases ho
 | bad r=>trivial
 | deep r=>trivial
 | out=>exact absurd h id
theorem over_un {α:Type} {x:PR Unit} (ho:zg x=true) (f:Unit→List Tok→PR α):(x.bind f).un=x:=by
 cases x with
 | ok u r=>cases ho
 | _=>rfl
theorem over_opX {lev:Int} {x:PR Unit} (ho:zg x=true):opX lev x=0:=by
 cases x with
 | ok u r=>cases ho
 | _=>rfl
theorem over_got {α:Type} {x:PR Unit} (ho:zg x=true) (f:Unit→List Tok→PR α) {P:α→Prop} {a:α} (h:P a):qn (x.bind f) P:=by
 cases x with
 | ok u r=>cases ho
 | bad r=>exact⟨a,h⟩
 | deep r=>exact⟨a,h⟩
 | out=>trivial
theorem unary_over {b:Nat} {V:Value} {all:List Tok} {x:PR Unit} {w:World} (h:qx b V all x w) (ho:zg x=true) {d:Int} (hd:0≤d∧d≤1000) (f:Unit→List Tok→PR Ex):
 Calls Tryz.prog 111 #[.pointer (some ⟨b,0,none⟩),.int .i64 d] w (qF b V all w (x.bind f) (jc w.heap.size)):=by
 have hg:∀ w',qY b V all w x w'→qF b V all w (x.bind f) (jc w.heap.size) (.returned ex0V) w':=fun w' hD=>⟨_,rfl,(over_un ho f).symm ▸ hD,over_got ho f (uO _ _)⟩
 by_cases hd2:d≤100
 · exact(unary_none h hd ho hd2).mono fun e w' ⟨he,hD⟩=>he ▸ hg w' hD
 · cases x with
   | ok u r=>cases ho
   | bad r=>exact(unary_bad (r:=r) rfl h hd rfl (by omega)).mono fun e w' ⟨he,hD⟩=>he ▸ hg w' hD
   | deep r=>exact(uR (dp:=true) h hd (by omega)).mono fun e w' ⟨he,hD⟩=>he ▸ hg w' hD
   | out=>exact absurd h id
theorem over_top {b:Nat} {V:Value} {all:List Tok} {d:Int} (hd:0≤d∧d≤1000):CO b V all 11 d:=by
 intro w x h ho;have HC:=hid (jS.start h);have HO:=hid ho;have HEN:=hid (over_ends h ho fun _ _=>(.out:PR Ex));have HD:=hid hd;clear h ho hd;go_enter Tryz.func97,Tryz.ntmps97
 go_wp2_with (first
  | (go_at_call 111;(with_reducible refine(unary_over HC.out.st HO.out HD.out fun _ _=>(.out:PR Ex)).mono ?_);rintro e w2 ⟨v,rfl,hD,hG⟩
     obtain⟨k1,k2,k3,k4,k5,k6,k7,rfl⟩:=qS hG HEN.out;have hz1:=HC.out.size;have HG:=hid hG;replace HC:=hid (HC.out.step hD);clear hD hG
     obtain⟨⟨c0,c1,c2,c3,c4⟩,fz⟩:=HC.out.own))
 obtain⟨f0,f1,f2,f3,f4⟩:=HC.out.read (.int .i64 k1) (.int .i64 k2) (.int .i64 k3) (.string k4) (.slice k5 k6 k7);refine bodyPost_ret (v:=.agg #[.int .i64 k1,.int .i64 k2,.int .i64 k3,.string k4,.slice k5 k6 k7]) (by simp[results,Tryz.results97,go_sem,f0,f1,f2,f3,f4]) rfl ?_;exact HC.out.fin rfl (HG.out.imp fun a ha=>jc.writ ha hz1 _ _ _ _ _)
theorem over_lev {b:Nat} {V:Value} {all:List Tok} {lev d:Int} (hl1:1≤lev) (hl2:lev≤10) (hE:CO b V all (lev+1) d):CO b V all lev d:=by
 intro w x h ho;have HC:=hid (jS.start h);have HO:=hid ho;have HEN:=hid (over_ends h ho fun _ _=>(.out:PR Ex));have HE:=hid hE;have hbw:=h.lt;clear h ho hE;go_enter Tryz.func97,Tryz.ntmps97
 go_wp2_with (first
  | (go_at_call 97;(with_reducible refine(HE.out.call HC.out.st HO.out).mono ?_);rintro e w2 ⟨v,rfl,hD,hG⟩
     obtain⟨k1,k2,k3,k4,k5,k6,k7,rfl⟩:=qS hG HEN.out;have hz1:=HC.out.size;have HG:=hid hG;rw[over_un HO.out]at hD;replace HC:=hid (HC.out.step hD);have hz2:=HC.out.size
     clear hD hG))
 have hb2:b<w2.heap.size:=HC.out.st.lt
 have HH:=hid (show ∃ a,jS b V all w x (w2.alloc (.cells #[.int .i64 k1,.int .i64 k2,.int .i64 k3,.string k4,.slice k5 k6 k7] 116))∧Holds (w.heap.size+1) w2.heap.size (w2.alloc (.cells #[.int .i64 k1,.int .i64 k2,.int .i64 k3,.string k4,.slice k5 k6 k7] 116)) a by
  obtain⟨a,ha⟩:=HG.out.some HEN.out;rw[zA]at ha
  exact⟨a,HC.out.alloc _,xx ha⟩)
 go_loopw [8] (fun _ wr=>∃ a,jS b V all w x wr∧Holds (w.heap.size+1) w2.heap.size wr a) (fun _ wr=>0)
 case atStart=>exact HH.out
 case round=>
  obtain⟨a,hC,⟨k1,k2,k3,k4,A0,m0,q0,hrow,hV⟩⟩:=hrel;replace HC:=hid hC;have HV:=hid hV;have HROW:=hid hrow;have hlt0:=hC.st.lt;have hne:w2.heap.size≠b:=by omega
  have hzr:=HC.out.size;have hgr:w2.heap.size<wr.heap.size:=(Array.getElem?_eq_some_iff.1 hrow).1;clear hC hV hrow
  go_wp2_with (first
   | (go_at_call 112;(with_reducible refine(op_any HC.out.st lev 0 (over_opX HO.out)).mono ?_);rintro e w3 ⟨rfl,hD⟩
      have HD:=hid hD;have hrow3:=qW hD.off hgr hne HROW.out;obtain⟨⟨p0,p1,p2,p3,p4⟩,pz⟩:=qK hrow3;replace HC:=hid (HC.out.step hD);clear hD hrow3
      obtain⟨⟨c0,c1,c2,c3,c4⟩,fz⟩:=HC.out.own))
  obtain⟨f0,f1,f2,f3,f4⟩:=HC.out.read (.int .i64 k1) (.int .i64 k2) (.int .i64 k3) (.string k4) (.slice A0 m0 q0);refine bodyPost_ret (v:=.agg #[.int .i64 k1,.int .i64 k2,.int .i64 k3,.string k4,.slice A0 m0 q0]) (by simp[results,Tryz.results97,go_sem,f0,f1,f2,f3,f4]) rfl ?_;exact HC.out.fin (over_un HO.out _) (over_got HO.out _ (holds_end HV.out HD.out hlt0 (by omega)))
theorem over_expr {b:Nat} {V:Value} {all:List Tok} {d:Int} (hd:0≤d∧d≤1000):∀ (k:Nat) (lev:Int),lev=11-k→1≤lev→CO b V all lev d
 | 0,lev,e,_=>by
   obtain rfl:lev=11:=by omega
   exact over_top hd
 | k+1,lev,e,h1=>over_lev h1 (by omega) (over_expr hd k (lev+1) (by omega) (by omega))
theorem ce_over {b:Nat} {V:Value} {all:List Tok} {n:Nat} {lev d:Int} (hd:0≤d∧d≤1000) (h1:1≤lev) (h2:lev≤11) {w:World} {x:PR Unit} (h:qx b V all x w) (ho:zg x=true):
 Calls Tryz.prog 97 #[.pointer (some ⟨b,0,none⟩),.int .i64 lev,.int .i64 d] w (qF b V all w (x.bind fun _ r=>pE n lev d r) (jc w.heap.size)):=by
 rw[vk ho (fun _ r=>pE n lev d r) fun _ _=>.out];exact over_expr hd (11-lev).toNat lev (by omega) h1 w x h ho
theorem expr_all (b:Nat) (V:Value) (all:List Tok):∀ (n:Nat),∀ m,m≤n→(∀ lev d:Int,1≤lev→lev≤11→0≤d→d≤101→CE b V all m lev d)∧(∀ d:Int,0≤d→d≤101→CU b V all m d)∧(∀ d:Int,0≤d→d≤100→CP b V all m d)∧(∀ d:Int,0≤d→d≤101→CA b V all m d)
 | 0,m,hm=>by
   obtain rfl:m=0:=by omega
   refine⟨fun lev d h1 h2 h3 h4 w x h hn=>?_,fun d h3 h4 w x h hn=>?_,fun d h3 h4 w x h hn=>?_,fun d h3 h4 w x h hn=>?_⟩
   · cases ho:zg x with
     | true=>exact ce_over ⟨h3,by omega⟩ h1 h2 h ho
     | false=>
       cases x with
       | ok u r=>exact absurd (show zG (pE 0 lev d r) from hn) (by rw[pE];exact id)
       | bad r=>cases ho
       | deep r=>cases ho
       | out=>exact absurd h id
   · cases ho:zg x with
     | true=>exact unary_over h ho ⟨h3,by omega⟩ _
     | false=>
       cases x with
       | ok u r=>exact absurd (show zG (pU 0 d r) from hn) (by rw[pU];exact id)
       | bad r=>cases ho
       | deep r=>cases ho
       | out=>exact absurd h id
   · cases ho:zg x with
     | true=>exact(yS h ho d).mono fun e w' ⟨he,hD⟩=>he ▸ us ho hD ex0 (uO _ _)
     | false=>
       cases x with
       | ok u r=>exact absurd (show zG (pP 0 d r) from hn) (by rw[pP];exact id)
       | bad r=>cases ho
       | deep r=>cases ho
       | out=>exact absurd h id
   · cases ho:zg x with
     | true=>exact(args_over h ho d).mono fun e w' ⟨he,hD⟩=>he ▸ us ho hD [] (xq _ _)
     | false=>
       cases x with
       | ok u r=>exact absurd (show zG (pA 0 d r) from hn) (by rw[pA];exact id)
       | bad r=>cases ho
       | deep r=>cases ho
       | out=>exact absurd h id
 | n+1,m,hm=>by
   have ih:=expr_all b V all n;by_cases hmn:m≤n
   · exact ih m hmn
   · obtain rfl:m=n+1:=by omega
     have hCE:∀ q,q≤n→∀ lev d:Int,1≤lev→lev≤11→0≤d→d≤101→CE b V all q lev d:=fun q hq=>(ih q hq).1
     have hCU:∀ q,q≤n→∀ d:Int,0≤d→d≤101→CU b V all q d:=fun q hq=>(ih q hq).2.1
     have hCP:∀ q,q≤n→∀ d:Int,0≤d→d≤100→CP b V all q d:=fun q hq=>(ih q hq).2.2.1
     have hCA:∀ q,q≤n→∀ d:Int,0≤d→d≤101→CA b V all q d:=fun q hq=>(ih q hq).2.2.2
     refine⟨fun lev d h1 h2 h3 h4=>?_,fun d h3 h4=>?_,fun d h3 h4=>?_,fun d h3 h4=>?_⟩
     · by_cases h11:lev=11
       · subst h11
         exact expr_top (hCU n Zr d h3 h4)
       · exact expr_lev h1 (by omega) fun q hq=>hCE q hq (lev+1) d (by omega) (by omega) h3 h4
     · exact unary_any (fun h=>hCE n Zr 1 (d+1) (by omega) (by omega) (by omega) (by omega)) (fun h=>hCU n Zr (d+1) (by omega) (by omega)) (fun h=>hCP n Zr d h3 h) ⟨h3,by omega⟩
     · exact prim_any (fun q hq=>hCE q hq 1 (d+1) (by omega) (by omega) (by omega) (by omega)) (fun q hq=>hCA q hq (d+1) (by omega) (by omega)) ⟨h3,by omega⟩
     · exact args_any fun q hq=>hCE q hq 1 d (by omega) (by omega) h3 h4
theorem xW {b:Nat} {V:Value} {all:List Tok} {n:Nat} {d:Int} (h1:0≤d) (h2:d≤101):CE b V all n 1 d:=(expr_all b V all n n Zr).1 1 d (by decide) (by decide) h1 h2
theorem args_all {b:Nat} {V:Value} {all:List Tok} {n:Nat} {d:Int} (h1:0≤d) (h2:d≤101):CA b V all n d:=(expr_all b V all n n Zr).2.2.2 d h1 h2
abbrev yT:Obj:=.cells #[.int .i64 0,.int .i64 0,.string ⟨#[]⟩,.slice none 0 0,.slice none 0 0,.slice none 0 0] 88
abbrev st0V:Value:=.agg #[.int .i64 0,.int .i64 0,.string ⟨#[]⟩,.slice none 0 0,.slice none 0 0,.slice none 0 0]
def yI (L:Nat) (w:World) (a:St) (v:Value):Prop:=
 match a with
 | .mk k ty name args thn els=>∃ v3 v4 v5,v=.agg #[.int .i64 k,.int .i64 ty,.string name,v3,v4,v5]∧zU L w args v3∧zT L w thn v4∧zT L w els v5
theorem yI.keep {L M:Nat} {w w':World} {a:St} {v:Value} (h:yI L w a v) (k:zD L w w') (hM:M≤L):yI M w' a v:=by
 obtain⟨kk,ty,name,args,thn,els⟩:=a;obtain⟨v3,v4,v5,hv,h3,h4,h5⟩:=h;exact⟨v3,v4,v5,hv,h3.keep k hM,h4.keep k hM,h5.keep k hM⟩
theorem yI.form {L:Nat} {w:World} {a:St} {v:Value} (h:yI L w a v):∃ k t s A3 m3 c3 A4 m4 c4 A5 m5 c5,v=.agg #[.int .i64 k,.int .i64 t,.string s,.slice A3 m3 c3,.slice A4 m4 c4,.slice A5 m5 c5]:=by
 obtain⟨kk,ty,name,args,thn,els⟩:=a;obtain⟨v3,v4,v5,hv,h3,h4,h5⟩:=h;obtain⟨A3,c3,rfl,_⟩:=h3.form;obtain⟨A4,c4,rfl,_⟩:=h4.form;obtain⟨A5,c5,rfl,_⟩:=h5.form;exact⟨_,_,_,_,_,_,_,_,_,_,_,_,hv⟩
theorem gots_form {L:Nat} {w:World} {x:PR St} {v:Value} (h:qn x fun a=>yI L w a v) (he:zG x):∃ k t s A3 m3 c3 A4 m4 c4 A5 m5 c5,v=.agg #[.int .i64 k,.int .i64 t,.string s,.slice A3 m3 c3,.slice A4 m4 c4,.slice A5 m5 c5]:=by
 obtain⟨a,ha⟩:=h.some he;exact ha.form
theorem kB {L:Nat} {w:World} {x:PR (List St)} {v:Value} (h:qn x fun a=>zT L w a v) (he:zG x):∃ A m c,v=.slice A m c:=by
 obtain⟨a,ha⟩:=h.some he;obtain⟨A,c,hv,_⟩:=ha.form;exact⟨A,_,c,hv⟩
theorem frEs_nil (L:Nat) (w:World):zU L w [] (.slice none 0 0):=xq _ _
theorem qM (L:Nat) (w:World):zT L w [] (.slice none 0 0):=slS_nil _ _
theorem xB {b:Nat} {V:Value} {all:List Tok} {x:PR Unit} {w:World} (h:qx b V all x w) (k:Int) (hk3:k≠3):
 Calls Tryz.prog 41 #[.pointer (some ⟨b,0,none⟩),.int .i64 k] w fun e w'=>∃ s,e=.returned (.string s)∧qY b V all w (x.bind fun _ r=>qP k r).un w'∧qn (x.bind fun _ r=>qP k r) fun a=>a=s:=by
 cases x with
 | ok u r=>
   refine(text_live h k hk3).mono fun e w' ⟨v,he,hD,hG⟩=>?_
   show ∃ s,_∧qY b V all w (qP k r).un w'∧qn (qP k r) _;unfold qP at hD hG ⊢;by_cases hk:yn r=k
   · rw[if_pos hk]at hD hG ⊢
     exact⟨_,by rw[he,show v=_ from hG],hD,rfl⟩
   · rw[if_neg hk]at hD hG ⊢
     obtain⟨a,ha⟩:=hG;exact⟨a,by rw[he,show v=_ from ha],hD,a,rfl⟩
 | bad r=>exact(text_over h rfl k).mono fun e w' ⟨he,hD⟩=>⟨_,he,hD,_,rfl⟩
 | deep r=>exact(text_over h rfl k).mono fun e w' ⟨he,hD⟩=>⟨_,he,hD,_,rfl⟩
 | out=>exact absurd h id
def OneF (L:Nat) (w:World) (a:Ex) (v:Value):Prop:=zU L w [a] v
theorem pI_assoc (n:Nat) (x:PR Unit):(x.bind fun _ r=>pI n r)=((x.bind fun _ r=>zL [40] r).bind fun _ r=>pE n 1 1 r).bind fun e r=>(zL [41] r).bind fun _ r=>.ok e r:=by
 rw[zR,zR];rfl
theorem yg {b:Nat} {V:Value} {all:List Tok} {n:Nat} {x:PR Unit} {w:World} (h:qx b V all x w) (hn:zG (x.bind fun _ r=>pI n r)):
 Calls Tryz.prog 98 #[.pointer (some ⟨b,0,none⟩)] w (qF b V all w (x.bind fun _ r=>pI n r) (OneF w.heap.size)):=by
 rw[pI_assoc]at hn ⊢;have HN:=hid (zo hn);have HD:=hid (show qY b V all w x w from⟨h,OffB.refl _ _ _⟩);have hbw:=h.lt;have HE:=hid (xW (b:=b) (V:=V) (all:=all) (n:=n) (d:=1) (by decide) (by decide));clear h hn;go_enter Tryz.func98,Tryz.ntmps98
 go_wp2_with (first
  | (go_at_call 44;(with_reducible refine(zW HD.out.st ⟨#[40]⟩).mono ?_);rintro e w1 ⟨rfl,hD⟩
     replace HD:=hid (show qY b V all w (x.bind fun _ r=>zL [40] r) w1 from HD.out.after hD);have hz1:=HD.out.off.size
     clear hD)
  | (go_at_call 97;(with_reducible refine(HE.out.call HD.out.st HN.out).mono ?_);rintro e w2 ⟨v,rfl,hD,hG⟩
     obtain⟨k1,k2,k3,k4,k5,k6,k7,rfl⟩:=qS hG HN.out;have HG:=hid hG;have hb1:=HD.out.st.lt;replace HD:=hid (HD.out.after hD);have hb2:w2.heap.size≠b:=by have:=HD.out.st.lt;omega
     have hz2:=HD.out.off.size
     clear hD hG)
  | (go_at_call 44;(with_reducible refine(zW (HD.out.alloc _).st ⟨#[41]⟩).mono ?_);rintro e w3 ⟨rfl,hD⟩
     have HK:=hid ((zD.of_below (L:=w1.heap.size) (Zb.alloc Zr _)).trans (zD.did hD hb1));obtain⟨p3,r3⟩:=off_own hD.off (k:=w2.heap.size) (by simp) hb2;replace HD:=hid ((HD.out.alloc _).after hD);have hz3:=HD.out.off.size
     clear hD))
 go_ret;refine⟨_,rfl,?_,qn.bind HG.out (fun a r _ ha=>xe (yF (jc.keep ha HK.out Zr) hz1 hz3 rfl)) fun a ha=>⟨a,yF (jc.keep ha HK.out Zr) hz1 hz3 rfl⟩⟩;rw[qr];simp only[jz];rw[←bind_un];exact HD.out.alloc _
abbrev yo (W:World) (g:Nat) (c0 c1 c2 c3 c4 c5:Value):World:=((((((W.setCell ⟨g,0,none⟩ c0).setCell ⟨g,1,none⟩ c1).setCell ⟨g,2,none⟩ c2).setCell ⟨g,3,none⟩ c3).setCell ⟨g,4,none⟩ c4).setCell ⟨g,5,none⟩ c5)
theorem ko (W:World) (g:Nat) (c0 c1 c2 c3 c4 c5:Value):(yo W g c0 c1 c2 c3 c4 c5).heap.size=W.heap.size:=by simp[yo]
theorem nest6_row {W:World} {g:Nat} {d0 d1 d2 d3 d4 d5:Value} {T:TypeId} {fr:Nat × Nat} (hb:W.heap[g]? =some (.cells #[d0,d1,d2,d3,d4,d5] T fr)) (c0 c1 c2 c3 c4 c5:Value):(yo W g c0 c1 c2 c3 c4 c5).heap[g]? =some (.cells #[c0,c1,c2,c3,c4,c5] T fr):=
 Lib.heap_setCell_same (Lib.heap_setCell_same (Lib.heap_setCell_same (Lib.heap_setCell_same (Lib.heap_setCell_same (Lib.heap_setCell_same hb c0) c1) c2) c3) c4) c5
theorem nest6_other {W:World} {g k:Nat} (hk:k≠g) (c0 c1 c2 c3 c4 c5:Value):(yo W g c0 c1 c2 c3 c4 c5).heap[k]? =W.heap[k]?:=by
 rw[Below.heap_setCell _ _ _ _ (by show k≠g;exact hk),Below.heap_setCell _ _ _ _ (by show k≠g;exact hk),Below.heap_setCell _ _ _ _ (by show k≠g;exact hk),Below.heap_setCell _ _ _ _ (by show k≠g;exact hk),Below.heap_setCell _ _ _ _ (by show k≠g;exact hk),Below.heap_setCell _ _ _ _ (by show k≠g;exact hk)]
theorem zD.nest6 {L g:Nat} {w:World} (hg:g<L) (c0 c1 c2 c3 c4 c5:Value):zD L w (yo w g c0 c1 c2 c3 c4 c5):=
 (((((zD.set hg 0 c0).trans (zD.set hg 1 c1)).trans (zD.set hg 2 c2)).trans (zD.set hg 3 c3)).trans (zD.set hg 4 c4)).trans (zD.set hg 5 c5)
theorem zO {W:World} {g:Nat} {c0 c1 c2 c3 c4 c5:Value} {T:TypeId} (h:W.heap[g]? =some (.cells #[c0,c1,c2,c3,c4,c5] T (0,0))):
 (W.cell? ⟨g,0,none⟩=some c0∧W.cell? ⟨g,1,none⟩=some c1∧W.cell? ⟨g,2,none⟩=some c2∧W.cell? ⟨g,3,none⟩=some c3∧W.cell? ⟨g,4,none⟩=some c4∧W.cell? ⟨g,5,none⟩=some c5)∧∀ o,W.frozen? ⟨g,o,none⟩=false:=by
 refine⟨⟨(Lib.cell_of_heap h 0).trans rfl,(Lib.cell_of_heap h 1).trans rfl,(Lib.cell_of_heap h 2).trans rfl,(Lib.cell_of_heap h 3).trans rfl,(Lib.cell_of_heap h 4).trans rfl,(Lib.cell_of_heap h 5).trans rfl⟩,fun o=>?_⟩;simp[World.frozen?,h]
def jF (b:Nat) (V:Value) (all:List Tok) (w:World) (x:PR Unit) (W:World):Prop:=qY b V all w x W∧W.heap[w.heap.size]? =some yT∧vy b V all w∧b<w.heap.size
section
variable {b:Nat} {V:Value} {all:List Tok} {w W W':World} {x y:PR Unit}
theorem jF.start (h:qx b V all x w):jF b V all w x (w.alloc yT):=
 ⟨⟨h.below (Zb.alloc Zr _),OffB.of_below (Zb.alloc Zr _) h.lt⟩,heap_alloc_new w yT,h.tok,h.lt⟩
theorem jF.st (h:jF b V all w x W):qx b V all x W:=h.1.1
theorem jF.size (h:jF b V all w x W):w.heap.size<W.heap.size:=(Array.getElem?_eq_some_iff.1 h.2.1).1
theorem jF.ne (h:jF b V all w x W):w.heap.size≠b:=by have:=h.2.2.2;omega
theorem jF.lt (h:jF b V all w x W):b<w.heap.size:=h.2.2.2
theorem jF.step (h:jF b V all w x W) (g:qY b V all W y W'):jF b V all w y W':=⟨h.1.after g,qW g.off h.size h.ne h.2.1,h.2.2⟩
theorem jF.alloc (h:jF b V all w x W) (o:Obj):jF b V all w x (W.alloc o):=⟨h.1.alloc o,zc h.2.1 o,h.2.2⟩
theorem jF.own (h:jF b V all w x W):(W.cell? ⟨w.heap.size,0,none⟩=some (.int .i64 0)∧W.cell? ⟨w.heap.size,1,none⟩=some (.int .i64 0)∧W.cell? ⟨w.heap.size,2,none⟩=some (.string ⟨#[]⟩)∧
 W.cell? ⟨w.heap.size,3,none⟩=some (.slice none 0 0)∧W.cell? ⟨w.heap.size,4,none⟩=some (.slice none 0 0)∧W.cell? ⟨w.heap.size,5,none⟩=some (.slice none 0 0))∧∀ o,W.frozen? ⟨w.heap.size,o,none⟩=false:=zO h.2.1
theorem jF.set (h:jF b V all w x W) {g:Nat} (hg:w.heap.size<g) (i:Nat) (u:Value):jF b V all w x (W.setCell ⟨g,i,none⟩ u):=
 ⟨h.1.set h.2.2.1 (by omega) (by have:=h.2.2.2;omega) i u,(Below.heap_setCell W _ u _ (by show w.heap.size≠g;omega)).trans h.2.1,h.2.2⟩
theorem qY.nest6 (h:qY b V all w x W) (ht:vy b V all w) {g:Nat} (hg:w.heap.size≤g) (hb:g≠b) (c0 c1 c2 c3 c4 c5:Value):qY b V all w x (yo W g c0 c1 c2 c3 c4 c5):=
 (((((h.set ht hg hb 0 c0).set ht hg hb 1 c1).set ht hg hb 2 c2).set ht hg hb 3 c3).set ht hg hb 4 c4).set ht hg hb 5 c5
theorem jF.fin (h:jF b V all w y W) {X:PR St} (hy:X.un=y) {c0 c1 c2 c3 c4 c5:Value} (hG:qn X fun a=>yI w.heap.size (yo W w.heap.size c0 c1 c2 c3 c4 c5) a (.agg #[c0,c1,c2,c3,c4,c5])):
 qF b V all w X (yI w.heap.size) (.returned (.agg #[c0,c1,c2,c3,c4,c5])) (yo W w.heap.size c0 c1 c2 c3 c4 c5):=
 ⟨_,rfl,hy ▸ h.1.nest6 h.2.2.1 Zr h.ne _ _ _ _ _ _,hG⟩
theorem jF.fina (h:jF b V all w y W) {X:PR St} (hy:X.un=y) {o:Obj} {c0 c1 c2 c3 c4 c5:Value} (hG:qn X fun a=>yI w.heap.size ((_root_.Go.Proofs.YtfghofifjnbicaaGreatDoor.yo W w.heap.size c0 c1 c2 c3 c4 c5).alloc o) a (.agg #[c0,c1,c2,c3,c4,c5])):
 qF b V all w X (yI w.heap.size) (.returned (.agg #[c0,c1,c2,c3,c4,c5])) ((_root_.Go.Proofs.YtfghofifjnbicaaGreatDoor.yo W w.heap.size c0 c1 c2 c3 c4 c5).alloc o):=
 ⟨_,rfl,hy ▸ (h.1.nest6 h.2.2.1 Zr h.ne _ _ _ _ _ _).alloc o,hG⟩
theorem jF.read (h:jF b V all w x W) (c0 c1 c2 c3 c4 c5:Value):(((((((W.setCell ⟨w.heap.size,0,none⟩ c0).setCell ⟨w.heap.size,1,none⟩ c1).setCell ⟨w.heap.size,2,none⟩ c2).setCell ⟨w.heap.size,3,none⟩ c3).setCell ⟨w.heap.size,4,none⟩ c4).setCell ⟨w.heap.size,5,none⟩ c5)).cell? ⟨w.heap.size,0,none⟩=some c0∧(((((((W.setCell ⟨w.heap.size,0,none⟩ c0).setCell ⟨w.heap.size,1,none⟩ c1).setCell ⟨w.heap.size,2,none⟩ c2).setCell ⟨w.heap.size,3,none⟩ c3).setCell ⟨w.heap.size,4,none⟩ c4).setCell ⟨w.heap.size,5,none⟩ c5)).cell? ⟨w.heap.size,1,none⟩=some c1∧(((((((W.setCell ⟨w.heap.size,0,none⟩ c0).setCell ⟨w.heap.size,1,none⟩ c1).setCell ⟨w.heap.size,2,none⟩ c2).setCell ⟨w.heap.size,3,none⟩ c3).setCell ⟨w.heap.size,4,none⟩ c4).setCell ⟨w.heap.size,5,none⟩ c5)).cell? ⟨w.heap.size,2,none⟩=some c2∧(((((((W.setCell ⟨w.heap.size,0,none⟩ c0).setCell ⟨w.heap.size,1,none⟩ c1).setCell ⟨w.heap.size,2,none⟩ c2).setCell ⟨w.heap.size,3,none⟩ c3).setCell ⟨w.heap.size,4,none⟩ c4).setCell ⟨w.heap.size,5,none⟩ c5)).cell? ⟨w.heap.size,3,none⟩=some c3∧(((((((W.setCell ⟨w.heap.size,0,none⟩ c0).setCell ⟨w.heap.size,1,none⟩ c1).setCell ⟨w.heap.size,2,none⟩ c2).setCell ⟨w.heap.size,3,none⟩ c3).setCell ⟨w.heap.size,4,none⟩ c4).setCell ⟨w.heap.size,5,none⟩ c5)).cell? ⟨w.heap.size,4,none⟩=some c4∧(((((((W.setCell ⟨w.heap.size,0,none⟩ c0).setCell ⟨w.heap.size,1,none⟩ c1).setCell ⟨w.heap.size,2,none⟩ c2).setCell ⟨w.heap.size,3,none⟩ c3).setCell ⟨w.heap.size,4,none⟩ c4).setCell ⟨w.heap.size,5,none⟩ c5)).cell? ⟨w.heap.size,5,none⟩=some c5:=(zO (nest6_row h.2.1 c0 c1 c2 c3 c4 c5)).1
theorem jF.reada (h:jF b V all w x W) (o:Obj) (c0 c1 c2 c3 c4 c5:Value):((((((((W.setCell ⟨w.heap.size,0,none⟩ c0).setCell ⟨w.heap.size,1,none⟩ c1).setCell ⟨w.heap.size,2,none⟩ c2).setCell ⟨w.heap.size,3,none⟩ c3).setCell ⟨w.heap.size,4,none⟩ c4).setCell ⟨w.heap.size,5,none⟩ c5)).alloc o).cell? ⟨w.heap.size,0,none⟩=some c0∧((((((((W.setCell ⟨w.heap.size,0,none⟩ c0).setCell ⟨w.heap.size,1,none⟩ c1).setCell ⟨w.heap.size,2,none⟩ c2).setCell ⟨w.heap.size,3,none⟩ c3).setCell ⟨w.heap.size,4,none⟩ c4).setCell ⟨w.heap.size,5,none⟩ c5)).alloc o).cell? ⟨w.heap.size,1,none⟩=some c1∧((((((((W.setCell ⟨w.heap.size,0,none⟩ c0).setCell ⟨w.heap.size,1,none⟩ c1).setCell ⟨w.heap.size,2,none⟩ c2).setCell ⟨w.heap.size,3,none⟩ c3).setCell ⟨w.heap.size,4,none⟩ c4).setCell ⟨w.heap.size,5,none⟩ c5)).alloc o).cell? ⟨w.heap.size,2,none⟩=some c2∧((((((((W.setCell ⟨w.heap.size,0,none⟩ c0).setCell ⟨w.heap.size,1,none⟩ c1).setCell ⟨w.heap.size,2,none⟩ c2).setCell ⟨w.heap.size,3,none⟩ c3).setCell ⟨w.heap.size,4,none⟩ c4).setCell ⟨w.heap.size,5,none⟩ c5)).alloc o).cell? ⟨w.heap.size,3,none⟩=some c3∧((((((((W.setCell ⟨w.heap.size,0,none⟩ c0).setCell ⟨w.heap.size,1,none⟩ c1).setCell ⟨w.heap.size,2,none⟩ c2).setCell ⟨w.heap.size,3,none⟩ c3).setCell ⟨w.heap.size,4,none⟩ c4).setCell ⟨w.heap.size,5,none⟩ c5)).alloc o).cell? ⟨w.heap.size,4,none⟩=some c4∧((((((((W.setCell ⟨w.heap.size,0,none⟩ c0).setCell ⟨w.heap.size,1,none⟩ c1).setCell ⟨w.heap.size,2,none⟩ c2).setCell ⟨w.heap.size,3,none⟩ c3).setCell ⟨w.heap.size,4,none⟩ c4).setCell ⟨w.heap.size,5,none⟩ c5)).alloc o).cell? ⟨w.heap.size,5,none⟩=some c5:=(zO (zc (nest6_row h.2.1 c0 c1 c2 c3 c4 c5) o)).1
end
end Go.Proofs.YtfghofifjnbicaaGreatDoor
