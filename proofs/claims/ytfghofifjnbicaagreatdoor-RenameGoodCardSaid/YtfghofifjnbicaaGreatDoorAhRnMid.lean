import Derived.Test.YtfghofifjnbicaaGreatDoorAhZed
import Derived.Test.YtfghofifjnbicaaGreatDoorAhRnOk
import Derived.Deep.DeepCutAuto
import Derived.Test.YtfghofifjnbicaaGreatDoorAhParBlk
import Derived.Laws.OwnMore
set_option linter.unusedSimpArgs false
set_option linter.unusedVariables false
set_option maxRecDepth 100000
/- In the midst of a round of the document's block that names anew. -/
namespace Go.Proofs.YtfghofifjnbicaaGreatDoor
open Lib (hid)
open Go.RowKit
abbrev stB (k ty:Int) (s:ByteArray) (v3 v4 v5:Value):Obj:=.cells #[.int .i64 k,.int .i64 ty,.string s,v3,v4,v5] 88
structure BkSt (b:Nat) (w:World) (ov av:Value) (done:List St) (all:kM) (nj a:Nat) (W:World):Prop where
 out:OutS w.heap.size (hole a W) ov done
 ne:∀ k,ov.ownBlock=some k→k≠a
 row:W.ownsRow w.heap.size 71 2 av all.length (all.flatMap kQ.cs)
 own:av.ownBlock=some a∨av.ownBlock=none∧a=b
 off:OffB b w.heap.size w W
 st:W.heap[b]? =some (staO nj)
 hb:b<w.heap.size
theorem BkSt.ha {b:Nat} {w:World} {ov av:Value} {done:List St} {all:kM} {nj a:Nat} {W:World} (h:BkSt b w ov av done all nj a W):a=b∨w.heap.size≤a∧a<W.heap.size:=by
 rcases h.own with h1 | ⟨_,h1⟩
 · have:=qJ h.row a h1
   exact .inr ⟨this.2,this.1⟩
 · exact .inl h1
structure BkMid (b m a:Nat) (wr w2 w:World) (av:Value) (all:kM) (nj a':Nat) (bx:Obj) (W:World):Prop where
 ka:∀ k,k<wr.heap.size→k≠a→k≠b→W.heap[k]? =wr.heap[k]?
 k2:∀ k,k<w2.heap.size→m+1≤k→W.heap[k]? =w2.heap[k]?
 sz:w2.heap.size≤W.heap.size
 row:W.ownsRow w.heap.size 71 2 av all.length (all.flatMap kQ.cs)
 own:av.ownBlock=some a'∨av.ownBlock=none∧a'=b
 ha:a'=a∨w2.heap.size≤a'
 off:OffB b w.heap.size w W
 st:W.heap[b]? =some (staO nj)
 box:W.heap[m]? =some bx
 hb:b<w.heap.size
 hm:m=wr.heap.size
 hm2:m<w2.heap.size
 hw:w.heap.size≤wr.heap.size
 ha0:a=b∨w.heap.size≤a∧a<wr.heap.size
section
variable {b m a:Nat} {wr w2 w:World} {av:Value} {all:kM} {nj a':Nat} {bx:Obj} {W W':World}
theorem BkMid.am (h:BkMid b m a wr w2 w av all nj a' bx W):a'≠m:=by
 have h1:=h.ha;have h2:=h.ha0;have h3:=h.hm;have h4:=h.hm2;have h5:=h.hb;have h6:=h.hw;omega
theorem BkMid.bm (h:BkMid b m a wr w2 w av all nj a' bx W):b≠m:=by have:=h.hb;have:=h.hm;have:=h.hw;omega
theorem BkMid.step (h:BkMid b m a wr w2 w av all nj a' bx W) (ho:OffB b W.heap.size W W') {nj':Nat} (hs:W'.heap[b]? =some (staO nj')):BkMid b m a wr w2 w av all nj' a' bx W' where
 ka k hk h1 h2:=(ho.block (by have:=h.sz;have:=h.hm;have:=h.hm2;omega) h2).trans (h.ka k hk h1 h2)
 k2 k hk h1:=(ho.block (by have:=h.sz;omega) (by have:=h.hb;have:=h.hm;have:=h.hw;omega)).trans (h.k2 k hk h1)
 sz:=Nat.le_trans h.sz ho.size
 row:=qR h.row fun j hj=>ho.block (qJ h.row j hj).1 (by have:=(qJ h.row j hj).2;have:=h.hb;omega)
 own:=h.own
 ha:=h.ha
 off:=h.off.trans (ho.mono h.off.size)
 st:=hs
 box:=(ho.block (by have:=h.sz;have:=h.hm2;omega) h.bm.symm).trans h.box
 hb:=h.hb
 hm:=h.hm
 hm2:=h.hm2
 hw:=h.hw
 ha0:=h.ha0
theorem BkMid.set (h:BkMid b m a wr w2 w av all nj a' bx W) (i:Nat) (u:Value) {bx':Obj} (hb':(W.setCell ⟨m,i,none⟩ u).heap[m]? =some bx'):BkMid b m a wr w2 w av all nj a' bx' (W.setCell ⟨m,i,none⟩ u) where
 ka k hk h1 h2:=(Below.heap_setCell W ⟨m,i,none⟩ u k (by show k≠m;have:=h.hm;omega)).trans (h.ka k hk h1 h2)
 k2 k hk h1:=(Below.heap_setCell W ⟨m,i,none⟩ u k (by show k≠m;omega)).trans (h.k2 k hk h1)
 sz:=by have:=h.sz;simpa[World.setCell] using this
 row:=qR h.row fun j hj=>Below.heap_setCell W ⟨m,i,none⟩ u j (by
  show j≠m;rcases h.own with h1 | ⟨h1,_⟩
  · rw[h1]at hj;injection hj with hj;subst hj;exact h.am
  · rw[h1]at hj;cases hj)
 own:=h.own
 ha:=h.ha
 off:=h.off.trans (OffB.of_below (Zb.setCell (p:=⟨m,i,none⟩) (by show w.heap.size≤m;have:=h.hm;have:=h.hw;omega) u) (zB h.st))
 st:=(Below.heap_setCell W ⟨m,i,none⟩ u b h.bm).trans h.st
 box:=hb'
 hb:=h.hb
 hm:=h.hm
 hm2:=h.hm2
 hw:=h.hw
 ha0:=h.ha0
theorem BkMid.bel (h:BkMid b m a wr w2 w av all nj a' bx W) {B:Nat} (hB:B≤b) (h0:OffB b w.heap.size w wr):Below B wr W:=
 ⟨Below.os h.off |>.trans (Below.os h0).symm,Below.tape h.off |>.trans (Below.tape h0).symm,Below.output h.off |>.trans (Below.output h0).symm,by have:=h.sz;have:=h.hm;have:=h.hm2;omega,fun q hq=>h.ka q (by have:=h.hb;have:=h.hw;omega) (by have:=h.ha0;have:=h.hb;omega) (by omega)⟩
theorem BkMid.alt (h:BkMid b m a wr w2 w av all nj a' bx W):a'<W.heap.size:=by
 rcases h.own with h1 | ⟨_,h1⟩
 · exact(qJ h.row a' h1).1
 · rw[h1];exact zB h.st
theorem BkMid.grow (h:BkMid b m a wr w2 w av all nj a' bx W) {W0:World} (h0:Below W.heap.size W W0) {av':Value} {x:ByteArray × ByteArray} (hg:W0.grownBy W' av.ownBlock) (hr:xA W0 av av') (ho:W'.ownsRow w.heap.size 71 2 av' (all++[x]).length ((all++[x]).flatMap kQ.cs)):
 ∃ a2,BkMid b m a wr w2 w av' (all++[x]) nj a2 bx W':=by
 have hsz:W.heap.size≤W'.heap.size:=Nat.le_trans h0.size hg.size
 have hkeep:∀ k,k<W.heap.size→k≠a'∨av.ownBlock=none→W'.heap[k]? =W.heap[k]?:=fun k hk hne=>(hg.block k (Nat.lt_of_lt_of_le hk h0.size) (fun e=>by
  rcases hne with h1 | h1
  · rcases h.own with h2 | ⟨h2,_⟩
    · rw[h2]at e;injection e with e;exact h1 e
    · rw[h2]at e;cases e
  · rw[h1]at e;cases e)).trans (h0.block k hk)
 have hWm:m<W.heap.size:=by have:=h.sz;have:=h.hm2;omega
 have hbb:b<W.heap.size:=zB h.st
 have hab:a'=b→av.ownBlock=none:=fun e=>by
  rcases h.own with h1 | ⟨h1,_⟩
  · have:=(qJ h.row a' h1).2;have:=h.hb;omega
  · exact h1
 have hkb:W'.heap[b]? =W.heap[b]?:=hkeep b hbb (by
  by_cases e:a'=b
  · exact .inr (hab e)
  · exact .inl (fun h1=>e h1.symm))
 have mk:∀ a2,(av'.ownBlock=some a2∨av'.ownBlock=none∧a2=b)→(a2=a∨w2.heap.size≤a2)→BkMid b m a wr w2 w av' (all++[x]) nj a2 bx W':=fun a2 h1 h2=>{
  ka:=fun k hk h3 h4=>(hkeep k (by have:=h.hm;omega) (.inl (fun e=>by have:=h.ha;have:=h.hm;have:=h.hm2;omega))).trans (h.ka k hk h3 h4)
  k2:=fun k hk h3=>(hkeep k (by have:=h.sz;omega) (.inl (fun e=>by have:=h.ha;have:=h.ha0;have:=h.hm;have:=h.hb;have:=h.hw;omega))).trans (h.k2 k hk h3)
  sz:=Nat.le_trans h.sz hsz
  row:=ho
  own:=h1
  ha:=h2
  off:=h.off.trans (OffB.mk' (hg.os.trans h0.os) (hg.tape.trans h0.tape) (hg.output.trans h0.output) hsz hbb fun k hk hkb=>hkeep k (Nat.lt_of_lt_of_le hk h.off.size) (by
   by_cases e:k=a'
   · subst e
     rcases h.own with h3 | ⟨h3,_⟩
     · have:=(qJ h.row k h3).2;omega
     · exact .inr h3
   · exact .inl e))
  st:=hkb.trans h.st
  box:=(hkeep m hWm (.inl h.am.symm)).trans h.box
  hb:=h.hb
  hm:=h.hm
  hm2:=h.hm2
  hw:=h.hw
  ha0:=h.ha0 }
 rcases hr with h1 | ⟨g,h1,h2⟩
 · rcases h.own with h3 | ⟨h3,h4⟩
   · exact⟨a',mk a' (.inl (h1.trans h3)) h.ha⟩
   · exact⟨a',mk a' (.inr ⟨h1.trans h3,h4⟩) h.ha⟩
 · exact⟨g,mk g (.inl h1) (.inr (by have:=h.sz;have:=h0.size;omega))⟩
end
theorem off_of_grown {b B:Nat} {w w':World} {row:Option Nat} (hg:w.grownBy w' row) (hb:b<w.heap.size) (hB:B≤w.heap.size) (hr:∀ k,row=some k→B≤k):OffB b B w w':=
 OffB.mk' hg.os hg.tape hg.output hg.size hb fun k hk _=>hg.block k (by omega) (fun e=>by have:=hr k e.symm;omega)
theorem BkMid.fin {b a a' nj nj':Nat} {wr w2 w W w':World} {ov ov' av:Value} {done:List St} {all0 all:kM} {av0:Value} {e:St} {k ty:Int} {s:ByteArray} {v3 v4 v5:Value}
 (h:BkMid b wr.heap.size a wr w2 w av all nj' a' (stB k ty s v3 v4 v5) W) (h0:BkSt b w ov av0 done all0 nj a wr) (hO:OutS w.heap.size (hole a' W) ov done) (hf:yI (wr.heap.size+1) (hole a' W) e (.agg #[.int .i64 k,.int .i64 ty,.string s,v3,v4,v5]))
 (hg:(W.alloc (stB k ty s v3 v4 v5)).grownBy w' ov.ownBlock) (hr:xA (W.alloc (stB k ty s v3 v4 v5)) ov ov') (ho:w'.ownsRow w.heap.size 88 6 ov' (done.length+1) ((uT (Classical.choose hO))++[.int .i64 k,.int .i64 ty,.string s,v3,v4,v5])):
 BkSt b w ov' av (done++[e]) all nj' a' w':=by
 have hown:=h0.out.own;rw[qD]at hown;have hsz:wr.heap.size<W.heap.size:=zB h.box
 have hne:∀ q,ov.ownBlock=some q→q≠a':=fun q hq=>by
  have h1:=hown q hq;have h2:=h0.ne q hq;have h3:=h.ha;have h4:=h.hm2;omega
 have hal:Below W.heap.size W (W.alloc (stB k ty s v3 v4 v5)):=Zb.alloc Zr _;have has:(W.alloc (stB k ty s v3 v4 v5)).heap.size=W.heap.size+1:=zA _ _;have hbb:b<W.heap.size:=zB h.st;have hkeep:∀ q,q<W.heap.size→ov.ownBlock≠some q→w'.heap[q]? =W.heap[q]?:=fun q hq hne=>(hg.block q (by omega) (fun e=>hne e.symm)).trans (hal.block q hq)
 obtain⟨h1,h2⟩:=hO.apph hf (by have:=h.hw;omega) (fun q hq=>by have:=(hown q hq).1;omega) hne h.alt hal hg hr ho
 refine⟨h1,h2,qR h.row fun q hq=>hkeep q (qJ h.row q hq).1 (fun e=>by
  have h3:=hne q e;rcases h.own with h4 | ⟨h4,_⟩
  · rw[h4]at hq;injection hq with hq;exact h3 hq.symm
  · rw[h4]at hq;cases hq),h.own,?_,(hkeep b hbb (fun e=>by have:=(hown b e).2;have:=h.hb;omega)).trans h.st,h.hb⟩
 exact(h.off.trans (OffB.of_below (hal.mono h.off.size) hbb)).trans (off_of_grown hg (by omega) (by have:=h.off.size;have:w.heap.size≤W.heap.size:=h.off.size;omega) fun q hq=>(hown q hq).2)
theorem cnt_len:∀ l:List St,l.length≤cntSs l
 | []=>Nat.zero_le _
 | .mk k t n a b c :: r=>by
   have:=cnt_len r;rw[cntSs,kN,List.length_cons];omega
@[go_sem] theorem buildPr (s t:ByteArray) (w:World):(Instr.build 71 #[(0,.string s),(1,.string t)]).run Tryz.prog w=.ok (.agg #[.string s,.string t]) w:=run_build w 71 _ _ (by kernel_rfl)
theorem formS_len {k ty:Int} {name:ByteArray} {a b c:Nat} {d:Bool} (h:zZ k ty name a b c d=true):a≤2:=by
 unfold zZ at h
 repeat' split at h
 all_goals (simp at h;try omega)
def RbPost (b:Nat) (w:World) (l:List St) (names:kM) (n:Nat) (e:Ending) (w':World):Prop:=
 ∃ v,e=.returned v∧zT w.heap.size w' (qL l names n).1 v∧OffB b w.heap.size w w'∧w'.heap[b]? =some (staO ((qL l names n).2 :Nat))
def RbC (m:Nat):Prop:=∀ (B b n:Nat) (l:List St) (names:kM) (vl vn:Value) (w:World),z8 l m=true→B≤b→SlS B w vl l→SlQ w.heap.size (hole b w) vn names→w.heap[b]? =some (staO n)→n+cntSs l≤1000000000→names.length+cntSs l≤1000000000→
 Calls Tryz.prog 24 #[.pointer (some ⟨b,0,none⟩),vl,vn] w (RbPost b w l names n)
theorem RbC.call {m:Nat} (h:RbC m) {B b n:Nat} {l:List St} {names:kM} {vl vn:Value} {w:World} (h1:z8 l m=true) (h2:B≤b) (h3:SlS B w vl l) (h4:SlQ w.heap.size (hole b w) vn names) (h5:w.heap[b]? =some (staO n)) (h6:n+cntSs l≤1000000000) (h7:names.length+cntSs l≤1000000000):
 Calls Tryz.prog 24 #[.pointer (some ⟨b,0,none⟩),vl,vn] w (RbPost b w l names n):=h B b n l names vl vn w h1 h2 h3 h4 h5 h6 h7
set_option maxHeartbeats 8000000 in
theorem rb_step (m:Nat) (ih:∀ m',m'+1=m→RbC m'):RbC m:=by
 intro B b n l names vl vn w hok hBb hl hq hx hc1 hc2;have hbs:=zB hx;obtain⟨A,c,rfl,hn⟩:=hl.form;obtain⟨A2,c2,rfl,hn2⟩:=hq.form;obtain⟨i0,hi0,hz0,hz1,hz2⟩:=info_parts pr_info;have HI0:=hid (And.intro hi0 (And.intro hz0 (And.intro hz1 hz2)));obtain⟨k0,hk0,hy0,hy1,hy2⟩:=info_parts st_info;have HK0:=hid (And.intro hk0 (And.intro hy0 (And.intro hy1 hy2)));have hlen:=cnt_len l;have hq':SlQ w.heap.size w (.slice A2 names.length c2) names:=hq.imp fun _ _ _ hc=>CellB.unhole hc
 have HA2:=hid (show A2=none→names.length=0 from fun h=>by
  obtain⟨A',c',hv,_,hF⟩:=hq';injection hv with e1 e2 e3;by_cases h0:0<names.length
  · obtain⟨g,o,h7,_⟩:=hF h0
    rw[←e1,h]at h7;cases h7
  · omega)
 have HQC:=hid (show ∀ ad,A2=some ad→∀ j u,(names.flatMap kQ.cs)[j]? =some u→w.cell? (ad.add j)=some u from fun ad had j u hu=>by
  obtain⟨A',c',hv,_,hF⟩:=hq';injection hv with e1 e2 e3;by_cases h0:0<names.length
  · obtain⟨g,o,h7,hr⟩:=hF h0
    rw[←e1,had]at h7;injection h7 with h7;subst h7;rw[show (⟨g,o,none⟩:Addr).add j=⟨g,o+j,none⟩ by unfold Addr.add;split <;> simp_all];exact qs_cells names g o hr j u hu
  · obtain rfl:names=[]:=List.eq_nil_of_length_eq_zero (by omega)
    simp at hu)
 have HQL:=hid (qs_len names);have HQ1:=hid (qs_one names);have HN0:=hid (World.ownsRow_nil w w.heap.size 71 2);have HL:=hid hl;have HOK:=hid hok;have HIH:=hid ih;have HX:=hid hx;clear hi0 hz0 hz1 hz2 hk0 hy0 hy1 hy2 hq hq' hl hok ih hx;go_enter Tryz.func24,Tryz.ntmps24
 go_wp2_with (at_builtin;refine kY rfl (.tmp 12) (.tmp 13) _ rfl w.heap.size 71 i0 _ 2 32 Tryz.underlying68 HI0.out.1 HI0.out.2.1 HI0.out.2.2.1 HI0.out.2.2.2 rfl (by omega) (.slice none 0 0) 0 [] rfl (by exact HN0.out) A2 names.length c2 (names.flatMap kQ.cs) rfl HQL.out HA2.out HQC.out HQ1.out (by simp only[maxLen];omega) (by omega) Zr ?_
              intro va w1 hown hg1;rw[Nat.zero_add,List.nil_append]at hown;obtain⟨A9,c9,rfl⟩:=zj hown;have hb1:Below w.heap.size w w1:=Zb.grown hg1 Zr fun k hk=>by cases hk
              have HS1:=hid (show ∃ a,BkSt b w (.slice none 0 0) (.slice A9 names.length c9) [] names n a w1 from by
               have mk:∀ a,((Value.slice A9 names.length c9).ownBlock=some a∨(Value.slice A9 names.length c9).ownBlock=none∧a=b)→BkSt b w (.slice none 0 0) (.slice A9 names.length c9) [] names n a w1:=fun a ha=>
                ⟨OutS.nil _ _,(fun k hk=>by cases hk),hown,ha,OffB.of_below hb1 hbs,(hb1.block b hbs).trans HX.out,hbs⟩
               cases ho:(Value.slice A9 names.length c9).ownBlock with
               | none=>exact⟨b,mk b (.inr ⟨ho,rfl⟩)⟩
               | some a=>exact⟨a,mk a (.inl ho)⟩)
              clear hown hg1 hb1)
 go_loopw [7,8,9] (fun ov av iv wr=>∃ (j nj a:Nat) (all:kM) (done:List St),j≤l.length∧iv=.int .i64 j∧qL l names n=(done++(qL (l.drop j) all nj).1,(qL (l.drop j) all nj).2)∧done.length=j∧nj+cntSs (l.drop j)≤1000000000∧all.length+cntSs (l.drop j)≤1000000000∧BkSt b w ov av done all nj a wr) (fun _ _ iv _=>l.length-(intOf iv).toNat)
 case atStart=>
  obtain⟨a,h⟩:=HS1.out;exact⟨0,n,a,names,[],Nat.zero_le _,rfl,by simp,rfl,hc1,hc2,h⟩
 case round=>
  obtain⟨j,nj,a,all,done,hj,rfl,heq,hdl,hcn,hca,hst⟩:=hrel;obtain⟨A0,c0,rfl⟩:=hst.out.form;obtain⟨A7,c7,rfl⟩:=zj hst.row;subst hdl;have hsz:w.heap.size≤wr.heap.size:=hst.off.size;have hbr:b<wr.heap.size:=by omega
  have HST:=hid hst;have HEQ:=hid heq;have HCN:=hid hcn;have HCA:=hid hca;clear hst heq hcn hca;by_cases hlt:done.length<l.length
  · obtain⟨⟨k,ty,name,args,thn,els⟩,he⟩:∃ e,l[done.length]? =some e:=⟨_,List.getElem?_eq_getElem hlt⟩
    obtain⟨g,o,v3,v4,v5,rfl,hg,q0,q1,q2,q3,q4,q5,s3,s4,s5⟩:=(HL.out.below (qt HST.out.off (by omega) hBb) Zr).cells he;obtain⟨A3,c3,rfl,h3⟩:=s3.form;obtain⟨A4,c4,rfl,h4⟩:=s4.form;obtain⟨A5,c5,rfl,h5⟩:=s5.form;have hgs:g<wr.heap.size:=by omega
    have hoke:=stsOK_at HOK.out he;rw[ja]at hoke;simp only[Bool.and_eq_true,decide_eq_true_eq]at hoke;obtain⟨⟨⟨⟨hm1,hform⟩,hargs⟩,hthn⟩,hels⟩:=hoke;obtain⟨m',rfl⟩:∃ m',m=m'+1:=⟨m-1,by omega⟩
    have h8:args.length≤8:=by have:=formS_len hform;omega
    have HARGS:=hid hargs;have HTHN:=hid (show z8 thn m'=true from hthn);have HELS:=hid (show z8 els m'=true from hels);have HE:=hid he;have hdrop:=cntSs_drop he;have hcn:=HCN.out;have hca:=HCA.out;rw[hdrop]at hcn hca;have HCN2:=hid hcn;have HCA2:=hid hca;have hbA:Below wr.heap.size wr (wr.alloc (.cells #[.int .i64 k,.int .i64 ty,.string name,.slice A3 args.length c3,.slice A4 thn.length c4,.slice A5 els.length c5] 88)):=Zb.alloc Zr _;have hxA:(wr.alloc (.cells #[.int .i64 k,.int .i64 ty,.string name,.slice A3 args.length c3,.slice A4 thn.length c4,.slice A5 els.length c5] 88)).heap[wr.heap.size]? =some (stB k ty name (.slice A3 args.length c3) (.slice A4 thn.length c4) (.slice A5 els.length c5)):=heap_alloc_new wr _;have hzA:(wr.alloc (.cells #[.int .i64 k,.int .i64 ty,.string name,.slice A3 args.length c3,.slice A4 thn.length c4,.slice A5 els.length c5] 88)).heap.size=wr.heap.size+1:=zA _ _;have HA1:=hid (show qw (wr.alloc (.cells #[.int .i64 k,.int .i64 ty,.string name,.slice A3 args.length c3,.slice A4 thn.length c4,.slice A5 els.length c5] 88)).heap.size (wr.alloc (.cells #[.int .i64 k,.int .i64 ty,.string name,.slice A3 args.length c3,.slice A4 thn.length c4,.slice A5 els.length c5] 88)) (.slice A3 args.length c3) args from s3.below (hbA.mono (by omega)) (by omega));have HQA:=hid (show SlQ (wr.alloc (.cells #[.int .i64 k,.int .i64 ty,.string name,.slice A3 args.length c3,.slice A4 thn.length c4,.slice A5 els.length c5] 88)).heap.size (wr.alloc (.cells #[.int .i64 k,.int .i64 ty,.string name,.slice A3 args.length c3,.slice A4 thn.length c4,.slice A5 els.length c5] 88)) (.slice A7 all.length c7) all from((yV HST.out.row HST.out.hb (by omega)).imp fun _ _ _ hc=>CellB.unhole hc).below hbA (by omega))
    have HS4:=hid s4;have HS5:=hid s5;have HBA:=hid hbA;have HXA:=hid hxA;clear s3 s4 s5 hargs hthn hels he hdrop hcn hca hform hbA hxA
    go_upto_if 32 with(go_at_call 58
                       (with_reducible refine(RxnC.call (rxn_all 100) HARGS.out h8 HA1.out HQA.out).mono ?_)
                       rintro x w2 ⟨v2,rfl,hF,hb⟩;obtain⟨A6,c6,rfl,_⟩:=hF.form;rw[kI]at hF;simp only[kI];have hz2:wr.heap.size+1≤w2.heap.size:=by rw[←hzA];exact hb.size
                       have hx2:=(hb.block wr.heap.size (by omega)).trans HXA.out;obtain⟨⟨e0,e1,e2,e3,e4,e5⟩,ez⟩:=zO hx2;have hs2:wr.heap.size<w2.heap.size:=by omega
                       have HF2:=hid (show zU (wr.heap.size+1) w2 (qe all args) (.slice A6 args.length c6) from hzA ▸ hF);have hbw:Below wr.heap.size wr w2:=HBA.out.trans (hb.mono (by omega))
                       have HM2:=hid (show BkMid b wr.heap.size a wr w2 w (.slice A7 all.length c7) all nj a (stB k ty name (.slice A3 args.length c3) (.slice A4 thn.length c4) (.slice A5 els.length c5)) w2 from {
                        ka:=fun q hq _ _=>hbw.block q hq
                        k2:=fun _ _ _=>rfl
                        sz:=Nat.le_refl _
                        row:=qy HST.out.row hbw Zr
                        own:=HST.out.own
                        ha:=.inl rfl
                        off:=HST.out.off.trans (OffB.of_below (hbw.mono hsz) hbr)
                        st:=(hbw.block b hbr).trans HST.out.st
                        box:=hx2
                        hb:=HST.out.hb
                        hm:=rfl
                        hm2:=hs2
                        hw:=hsz
                        ha0:=HST.out.ha })
                       clear hF hb hbw)
    have HM3:=hid (HM2.out.set 3 (.slice A6 args.length c6) (bx':=stB k ty name (.slice A6 args.length c6) (.slice A4 thn.length c4) (.slice A5 els.length c5)) (Lib.heap_setCell_same hx2 _));generalize w2.setCell ⟨wr.heap.size,3,none⟩ (.slice A6 args.length c6)=W3 at *;clear hx2 e0 e1 e2 e3 e4 e5 ez q0 q1 q2 q3 q4 q5;obtain⟨⟨d0,d1,d2,d3,d4,d5⟩,dz⟩:=zO HM3.out.box;have hs3:wr.heap.size<W3.heap.size:=zB HM3.out.box;have hnj:nj≤1000000000:=by have:=HCN2.out;omega
    have hall:all.length≤1000000000:=by have:=HCA2.out;omega
    have hdn:done.length≤1000000000:=by omega
    have hwW3:w.heap.size≤W3.heap.size:=by have:=HM3.out.off.size;exact this
    obtain⟨hk,hkk⟩:∃ hk:Bool,(k == 1)=hk:=⟨_,rfl⟩
    have HKK:=hid hkk
    go_cut [8,11] (fun av2 nv wx=>∃ a2,BkMid b wr.heap.size a wr w2 w av2 (xb k name all nj) (xE k nj) a2 (stB k ty name (.slice A6 args.length c6) (.slice A4 thn.length c4) (.slice A5 els.length c5)) wx)
    case first=>
     cases hk with
     | false=>
       go_wp2_with (fail)
       go_meet
       have hk1:k≠1:=by simpa using HKK.out
       exact⟨a,by unfold xb xE;rw[if_neg hk1,if_neg hk1];exact HM3.out⟩
     | true=>
       have hk1:k=1:=by simpa using HKK.out
       have HK1:=hid hk1;clear hk1
       go_wp2_with (first
        | (go_at_call 23
           (with_reducible refine(rnext_any b nj W3 HM3.out.st (by omega)).mono ?_)
           rintro x w4 ⟨rfl,ho,hx⟩;have HM4:=hid (HM3.out.step ho hx);obtain⟨⟨f0,f1,f2,f3,f4,f5⟩,fz⟩:=zO HM4.out.box;have hs4:wr.heap.size<w4.heap.size:=zB HM4.out.box;have hwW4:w.heap.size≤w4.heap.size:=by have:=HM4.out.off.size;exact this
           have hpre:=OutK.pre (K:=kQ) (cs:=[.string name,.string (vN nj)]) (⟨HM4.out.row,fun _ _=>trivial⟩:OutK kQ w.heap.size w4 (.slice A7 all.length c7) all) (by omega);have HPRE:=hid hpre
           clear ho hx hpre)
        | (at_builtin;refine zw rfl (.tmp 35) (.tmp 40) _ rfl w.heap.size 71 i0 _ 2 32 Tryz.underlying68 HI0.out.1 HI0.out.2.1 HI0.out.2.2.1 HI0.out.2.2.2 rfl (by omega) (.slice A7 all.length c7) all.length _ rfl (by exact HPRE.out.1) ⟨w4.heap.size,0,none⟩ 1 1 [.string name,.string (vN nj)] rfl rfl (by exact HPRE.out.2.1) (by simp[Value.oneCell']) (by simp only[maxLen];omega) (by omega) (by exact HPRE.out.2.2) (by omega) ?_
           intro v1 w6 hown1 hg1 hr1;have HM6:=hid (HM4.out.grow (x:=(name,vN nj)) (Zb.alloc Zr _) hg1 hr1 (by rw[qs_snoc,List.length_append];exact hown1))
           clear hown1 hg1 hr1))
       go_meet
       obtain⟨a2,h2⟩:=HM6.out;exact⟨a2,by unfold xb xE;rw[if_pos HK1.out,if_pos HK1.out];exact h2⟩
    case rest=>
     obtain⟨a2,hm5⟩:=hcut;obtain⟨A8,c8,rfl⟩:=zj hm5.row;obtain⟨all2,hall2⟩:∃ x,xb k name all nj=x:=⟨_,rfl⟩
     obtain⟨n2,hn2⟩:∃ x,xE k nj=x:=⟨_,rfl⟩
     obtain⟨nm,hnm⟩:∃ x,nmS k name all nj=x:=⟨_,rfl⟩
     rw[hall2,hn2]at hm5;simp only[hall2];have HM5:=hid hm5;have hn2b:n2≤nj+1:=by rw[←hn2];unfold xE;split <;> omega
     have ha2b:all2.length≤all.length+1:=by rw[←hall2];unfold xb;split <;> simp
     have HREN:=hid (show renS (.mk k ty name args thn els) all nj=(.mk k ty nm (qe all args) (qL thn all2 n2).1 (qL els all2 (qL thn all2 n2).2).1,(qL els all2 (qL thn all2 n2).2).2) from by
      rw[renS,hall2,hn2,←hnm];unfold nmS
      rw[hall2])
     have HLET:=hid (show letSN (.mk k ty name args thn els) all nj=all2 from hall2);have HFN:=hid (show k=1∨k=2→fnd all2 name=nm from fun h=>by rw[←hnm];unfold nmS;rw[if_pos h,hall2]);have HNM:=hid (show ¬ (k=1∨k=2)→nm=name from fun h=>by rw[←hnm];unfold nmS;rw[if_neg h]);have HQ5:=hid (show SlQ wc.heap.size wc (.slice A8 all2.length c8) all2 from(yV hm5.row hm5.hb (by omega)).imp fun _ _ _ hc=>CellB.unhole hc);clear hm5 hall2 hn2 hnm d0 d1 d2 d3 d4 d5 dz;obtain⟨⟨d0,d1,d2,d3,d4,d5⟩,dz⟩:=zO HM5.out.box;have hs5:wr.heap.size<wc.heap.size:=zB HM5.out.box;obtain⟨h2,hh2⟩:∃ h2:Bool,(k == 2)=h2:=⟨_,rfl⟩
     have HH2:=hid hh2;have hways:hk=true∨hk=false∧h2=true∨hk=false∧h2=false:=by cases hk <;> cases h2 <;> simp
     rcases hways with rfl | ⟨rfl,rfl⟩ | ⟨rfl,rfl⟩
     case' inl=>
      have hfn:=HFN.out (.inl (by simpa using HKK.out))
     case' inr.inl=>
      have hfn:=HFN.out (.inr (by simpa using HH2.out))
     case' inl=>
      have HFN1:=hid hfn;clear hfn;go_upto_region 14 with(go_at_call 59;(with_reducible refine(uP _ all2 name nm HFN1.out _ _ Zr HQ5.out).mono ?_);rintro x w4 ⟨rfl,rfl⟩);have HM6:=hid (HM5.out.set 2 (.string nm) (bx':=stB k ty nm (.slice A6 args.length c6) (.slice A4 thn.length c4) (.slice A5 els.length c5)) (Lib.heap_setCell_same HM5.out.box _));generalize wc.setCell ⟨wr.heap.size,2,none⟩ (.string nm)=W6 at *;clear d0 d1 d2 d3 d4 d5 dz
     case' inr.inl=>
      have HFN1:=hid hfn;clear hfn;go_upto_region 14 with(go_at_call 59;(with_reducible refine(uP _ all2 name nm HFN1.out _ _ Zr HQ5.out).mono ?_);rintro x w4 ⟨rfl,rfl⟩);have HM6:=hid (HM5.out.set 2 (.string nm) (bx':=stB k ty nm (.slice A6 args.length c6) (.slice A4 thn.length c4) (.slice A5 els.length c5)) (Lib.heap_setCell_same HM5.out.box _));generalize wc.setCell ⟨wr.heap.size,2,none⟩ (.string nm)=W6 at *;clear d0 d1 d2 d3 d4 d5 dz
     case' inr.inr=>
      go_upto_region 14 with(fail)
      have hk1:¬ (k=1∨k=2):=by
       have h1:=HKK.out;have h2:=HH2.out;simp at h1 h2;omega
      have hnm:=HNM.out hk1;have HM6:=hid (show BkMid b wr.heap.size a wr w2 w (.slice A8 all2.length c8) all2 n2 a2 (stB k ty nm (.slice A6 args.length c6) (.slice A4 thn.length c4) (.slice A5 els.length c5)) wc from hnm ▸ HM5.out);clear d0 d1 d2 d3 d4 d5 dz hk1 hnm;obtain⟨W6,rfl⟩:∃ x,x=wc:=⟨_,rfl⟩
     all_goals
      have hs6:wr.heap.size<W6.heap.size:=zB HM6.out.box;have hw6:w.heap.size≤W6.heap.size:=HM6.out.off.size;have hb6:b<W6.heap.size:=zB HM6.out.st;obtain⟨⟨e0,e1,e2,e3,e4,e5⟩,ez⟩:=zO HM6.out.box;have HQ6:=hid (yV HM6.out.row HM6.out.hb (by omega));have HT6:=hid (show SlS B W6 (.slice A4 thn.length c4) thn from HS4.out.below (HM6.out.bel hBb HST.out.off) Zr)
      go_upto_region 15 with(go_at_call 24
                             (with_reducible refine(RbC.call (HIH.out m' rfl) HTHN.out hBb HT6.out HQ6.out HM6.out.st (by have:=HCN2.out;omega) (by have:=HCA2.out;omega)).mono ?_)
                             rintro x w7 ⟨v7,rfl,hF,ho,hx⟩;obtain⟨A10,c10,rfl,_⟩:=SlS.form hF;rw[kg]at hF;simp only[kg];have HM7:=hid (HM6.out.step ho hx);have HF7:=hid hF;obtain⟨⟨f0,f1,f2,f3,f4,f5⟩,fz⟩:=zO HM7.out.box;have hs7:wr.heap.size<w7.heap.size:=zB HM7.out.box;have hz7:W6.heap.size≤w7.heap.size:=ho.size
                             clear hF ho hx)
      have HM8:=hid (HM7.out.set 4 (.slice A10 thn.length c10) (bx':=stB k ty nm (.slice A6 args.length c6) (.slice A10 thn.length c10) (.slice A5 els.length c5)) (Lib.heap_setCell_same HM7.out.box _));have hz8:(w7.setCell ⟨wr.heap.size,4,none⟩ (.slice A10 thn.length c10)).heap.size=w7.heap.size:=by simp[World.setCell]
      have HK8:=hid (show ∀ q,q≠wr.heap.size→(w7.setCell ⟨wr.heap.size,4,none⟩ (.slice A10 thn.length c10)).heap[q]? =w7.heap[q]? from fun q hq=>Below.heap_setCell w7 ⟨wr.heap.size,4,none⟩ _ q hq);generalize w7.setCell ⟨wr.heap.size,4,none⟩ (.slice A10 thn.length c10)=W8 at *;have hz8a:=Nat.le_of_eq hz8;have hz8b:=Nat.le_of_eq hz8.symm;clear hz8;obtain⟨n7,hn7⟩:∃ x,(qL thn all2 n2).2=x:=⟨_,rfl⟩
      have hn7b:n7≤n2+cntSs thn:=by rw[←hn7];exact yU thn all2 n2
      rw[hn7]at HM8 HREN;clear e0 e1 e2 e3 e4 e5 ez f0 f1 f2 f3 f4 f5 fz hn7;obtain⟨⟨e0,e1,e2,e3,e4,e5⟩,ez⟩:=zO HM8.out.box;have hs8:wr.heap.size<W8.heap.size:=zB HM8.out.box;have hw8:w.heap.size≤W8.heap.size:=HM8.out.off.size;have hb8:b<W8.heap.size:=zB HM8.out.st;have HQ8:=hid (yV HM8.out.row HM8.out.hb (by omega));have HT8:=hid (show SlS B W8 (.slice A5 els.length c5) els from HS5.out.below (HM8.out.bel hBb HST.out.off) Zr)
      go_upto_region 16 with(go_at_call 24
                             (with_reducible refine(RbC.call (HIH.out m' rfl) HELS.out hBb HT8.out HQ8.out HM8.out.st (by have:=HCN2.out;omega) (by have:=HCA2.out;omega)).mono ?_)
                             rintro x w9 ⟨v9,rfl,hF,ho,hx⟩;obtain⟨A11,c11,rfl,_⟩:=SlS.form hF;rw[kg]at hF;simp only[kg];have HM9:=hid (HM8.out.step ho hx);have HF9:=hid hF;have HO9:=hid ho;obtain⟨⟨f0,f1,f2,f3,f4,f5⟩,fz⟩:=zO HM9.out.box;have hs9:wr.heap.size<w9.heap.size:=zB HM9.out.box;have hz9:W8.heap.size≤w9.heap.size:=ho.size
                             clear hF ho hx)
      have HM10:=hid (HM9.out.set 5 (.slice A11 els.length c11) (bx':=stB k ty nm (.slice A6 args.length c6) (.slice A10 thn.length c10) (.slice A11 els.length c11)) (Lib.heap_setCell_same HM9.out.box _));have hz10:(w9.setCell ⟨wr.heap.size,5,none⟩ (.slice A11 els.length c11)).heap.size=w9.heap.size:=by simp[World.setCell]
      have HK10:=hid (show ∀ q,q≠wr.heap.size→(w9.setCell ⟨wr.heap.size,5,none⟩ (.slice A11 els.length c11)).heap[q]? =w9.heap[q]? from fun q hq=>Below.heap_setCell w9 ⟨wr.heap.size,5,none⟩ _ q hq);generalize w9.setCell ⟨wr.heap.size,5,none⟩ (.slice A11 els.length c11)=W10 at *;have hz10a:=Nat.le_of_eq hz10;have hz10b:=Nat.le_of_eq hz10.symm;clear hz10;obtain⟨n9,hn9⟩:∃ x,(qL els all2 n7).2=x:=⟨_,rfl⟩
      have hn9b:n9≤n7+cntSs els:=by rw[←hn9];exact yU els all2 n7
      rw[hn9]at HM10 HREN;clear e0 e1 e2 e3 e4 e5 ez f0 f1 f2 f3 f4 f5 fz hn9;obtain⟨⟨e0,e1,e2,e3,e4,e5⟩,ez⟩:=zO HM10.out.box;have hs10:wr.heap.size<W10.heap.size:=zB HM10.out.box;have hw10:w.heap.size≤W10.heap.size:=HM10.out.off.size;have hown:=HST.out.out.own;rw[qD]at hown;have hbw:=HST.out.hb;have hah:=HM10.out.ha;have ha0:=HM10.out.ha0;have hm2:=HM10.out.hm2
      have hne2:∀ q,(Value.slice A0 done.length c0).ownBlock=some q→q≠a2:=fun q hq=>by
       have h1:=hown q hq;have h2:=HST.out.ne q hq;omega
      have hsh:OutS w.heap.size (hole a2 W10) (.slice A0 done.length c0) done:=HST.out.out.shift (by omega) (fun q hq hB hqa=>HM10.out.ka q hq hqa (by omega)) (by omega) HST.out.ne;have HSH:=hid hsh;have halt6:=HM6.out.alt;have halt8:=HM8.out.alt
      have hfrs:yI (wr.heap.size+1) (hole a2 W10) (.mk k ty nm (qe all args) (qL thn all2 n2).1 (qL els all2 n7).1) (.agg #[.int .i64 k,.int .i64 ty,.string nm,.slice A6 args.length c6,.slice A10 thn.length c10,.slice A11 els.length c11]):=by
       refine⟨_,_,_,rfl,?_,?_,?_⟩
       · exact HF2.out.hole HM10.out.sz (fun q hq hL=>HM10.out.k2 q hq hL) (by omega)
       · exact(HF7.out.hole (w':=W10) (a:=a2) (by omega) (fun q hq hL=>(HK10.out q (by omega)).trans ((HO9.out.block (by omega) (by omega)).trans (HK8.out q (by omega)))) (by omega)).keep (zD.refl _ _) (by omega)
       · exact(HF9.out.hole (w':=W10) (a:=a2) (by omega) (fun q hq hL=>HK10.out q (by omega)) (by omega)).keep (zD.refl _ _) (by omega)
      have HFRS:=hid hfrs;obtain⟨hp1,hp2,hp3⟩:=blkh_pre HSH.out hne2 (.int .i64 k) (.int .i64 ty) (.string nm) (.slice A6 args.length c6) (.slice A10 thn.length c10) (.slice A11 els.length c11) hw10;have HPRE:=hid (And.intro hp1 (And.intro hp2 hp3));clear hown hne2 hsh hfrs hp1 hp2 hp3
      go_wp2_with (at_builtin;refine zw rfl (.tmp 67) (.tmp 69) _ rfl w.heap.size 88 k0 _ 6 104 Tryz.underlying43 HK0.out.1 HK0.out.2.1 HK0.out.2.2.1 HK0.out.2.2.2 rfl (by omega) (.slice A0 done.length c0) done.length _ rfl (by exact HPRE.out.1) ⟨W10.heap.size,0,none⟩ 1 1 [.int .i64 k,.int .i64 ty,.string nm,.slice A6 args.length c6,.slice A10 thn.length c10,.slice A11 els.length c11] rfl rfl (by exact HPRE.out.2.1) (by simp[Value.oneCell']) (by simp only[maxLen];omega) (by omega) (by exact HPRE.out.2.2) (by omega) ?_
                   intro v1 w11 hown1 hg1 hr1;have HFIN:=hid (HM10.out.fin HST.out HSH.out HFRS.out hg1 hr1 hown1)
                   clear hown1 hg1 hr1)
      go_roundw
      case rel=>
       refine⟨done.length+1,n9,a2,all2,_,by omega,by go_num,?_,by simp,?_,?_,HFIN.out⟩
       · rw[HEQ.out,jv HE.out,qL,HREN.out,HLET.out]
         simp
       · have:=HCN2.out;omega
       · have:=HCA2.out;omega
      case measure=>simp[intOf];omega
  · have hdl:done.length=l.length:=by omega
    have HRES:=hid (show done=(qL l names n).1∧nj=(qL l names n).2 from by
     have h1:=HEQ.out;rw[hdl,List.drop_length,qL]at h1;rw[h1]
     simp)
    have HREAD:=hid (show zT w.heap.size wr done (.slice A0 done.length c0) from zT.unhole (HST.out.out.read (by omega)));clear hdl;go_wp2_with (fail);go_ret;refine⟨_,rfl,?_,HST.out.off,?_⟩
    · rw[←HRES.out.1];exact HREAD.out
    · rw[←HRES.out.2];exact HST.out.st
theorem rb_all:∀ m,RbC m:=fun m=>by
 induction m with
 | zero=>exact rb_step 0 fun m' h=>absurd h (by omega)
 | succ m ih=>exact rb_step (m+1) fun m' h=>by obtain rfl:m'=m:=by omega
                                               exact ih
def OutT {β:Type} (K:Knd β) (B L:Nat) (w:World) (v:Value) (ps qs:List β):Prop:=
 w.ownsRow B K.T K.n v (ps++qs).length ((ps++qs).flatMap K.cs)∧(∀ k,v.ownBlock=some k→k<L)∧∀ p ∈ ps,K.inn w.heap.size (mask (yd L) w) p
section
variable {β:Type} {K:Knd β} {B L:Nat} {w w':World} {v:Value} {ps qs:List β}
theorem OutT.start (h:w.ownsRow B K.T K.n v qs.length (qs.flatMap K.cs)) (hL:w.heap.size≤L):OutT K B L w v [] qs:=⟨h,fun k hk=>Nat.lt_of_lt_of_le (qJ h k hk).1 hL,fun p hp=>by cases hp⟩
theorem OutT.own (h:OutT K B L w v ps qs):∀ k,v.ownBlock=some k→k<w.heap.size∧B≤k:=qJ h.1
theorem OutT.keep (h:OutT K B L w v ps qs) (k:zD L w w') (hk:∀ j,j<w.heap.size→v.ownBlock=some j→w'.heap[j]? =w.heap[j]?):OutT K B L w' v ps qs:=
 ⟨qR h.1 fun j hj=>hk j (h.own j hj).1 hj,h.2.1,fun p hm=>xk (h.2.2 p hm) k.1 fun j hj hq=>⟨hq,k.2 j hj (qG.1 hq)⟩⟩
theorem OutT.below (h:OutT K B L w v ps qs) (hb:Below w.heap.size w w'):OutT K B L w' v ps qs:=h.keep (zD.of_below hb) fun j hj _=>hb.block j hj
theorem OutT.fin (h:OutT K B L w v ps []) (hB:B≤L):OutK K B w v ps:=by
 refine⟨?_,fun p hp=>xk (w':=w) (h.2.2 p hp) Zr fun j hj hq=>⟨zx.2 ⟨Nat.le_trans hB (qG.1 hq),fun e=>?_⟩,rfl⟩⟩
 · have:=h.1
   rwa [List.append_nil]at this
 · have h1:=h.2.1 j e
   have h2:=qG.1 hq;omega
theorem OutT.cons (h:OutT K B L w v ps qs) (hq:qs≠[]):∃ g c,v=.slice (some ⟨g,0,none⟩) (ps++qs).length c∧B≤g∧g<w.heap.size∧g<L:=by
 rcases h.1.2 with⟨_,h0⟩ | ⟨g,cap,cur,hv,hb,hg,_⟩
 · rw[List.length_append]at h0
   exact absurd (List.eq_nil_of_length_eq_zero (by omega)) hq
 · exact⟨g,cap,hv,hb,zB hg,h.2.1 g (by rw[hv];rfl)⟩
theorem yW (K:Knd β):∀ l:List β,(l.flatMap K.cs).length=l.length * K.n
 | []=>by simp
 | x :: r=>by rw[List.flatMap_cons,List.length_append,yW K r,K.len,List.length_cons,Nat.add_mul];omega
theorem OutT.cel {g c m:Nat} {q:β} (h:OutT K B L w (.slice (some ⟨g,0,none⟩) m c) ps (q :: qs)) (hm:m=(ps++q :: qs).length) {j:Nat} {u:Value} (hj:(K.cs q)[j]? =some u):w.cell? ⟨g,ps.length * K.n+j,none⟩=some u:=by
 subst hm;have hlt:j<K.n:=by rw[←K.len q];exact(List.getElem?_eq_some_iff.1 hj).1
 rw[h.1.cellAt _ (by rw[List.length_append,List.length_cons,Nat.add_mul,Nat.add_mul];omega)];rw[List.flatMap_append,List.flatMap_cons,List.getElem?_append_right (by rw[yW];omega),yW,Nat.add_sub_cancel_left,List.getElem?_append_left (by rw[K.len];exact hlt)];exact hj
theorem OutT.frz {g c m:Nat} (h:OutT K B L w (.slice (some ⟨g,0,none⟩) m c) ps qs) (hm:m=(ps++qs).length) (j:Nat):w.frozen? ⟨g,j,none⟩=false:=by
 subst hm;exact h.1.frozenAt j
theorem OutT.set {g c m:Nat} {q q':β} (h:OutT K B L w (.slice (some ⟨g,0,none⟩) m c) ps (q :: qs)) (hm:m=(ps++q :: qs).length) {i j:Nat} {u:Value} (hi:i=ps.length * K.n+j) (hq:K.cs q'=(K.cs q).set j u) (hjn:j<K.n):
 OutT K B L (w.setCell ⟨g,i,none⟩ u) (.slice (some ⟨g,0,none⟩) m c) ps (q' :: qs):=by
 subst hm hi;obtain⟨h1,h2⟩:=World.ownsRow.stored h.1 (ps.length * K.n+j) u;have hsz:(w.setCell ⟨g,ps.length * K.n+j,none⟩ u).heap.size=w.heap.size:=by simp[World.setCell]
 have hgL:g<L:=h.2.1 g rfl;refine⟨?_,h.2.1,fun p hp=>xk (h.2.2 p hp) (Nat.le_of_eq hsz.symm) fun k hk hq=>⟨hq,Below.heap_setCell w _ u k (by show k≠g;have:=qG.1 hq;omega)⟩⟩
 have e:((ps++q :: qs).flatMap K.cs).set (ps.length * K.n+j) u=(ps++q' :: qs).flatMap K.cs:=by
  rw[List.flatMap_append,List.flatMap_append,List.flatMap_cons,List.flatMap_cons,hq,List.set_append_right _ _ (by rw[yW];omega),yW,Nat.add_sub_cancel_left,List.set_append_left _ _ (by rw[K.len];exact hjn)]
 rw[e]at h1;have el:(ps++q' :: qs).length=(ps++q :: qs).length:=by simp
 rw[el];exact h1
theorem OutT.push {M:Nat} {q:β} (h:OutT K B L w v ps (q :: qs)) (hf:FrK K M w q) (hM:L≤M):OutT K B L w v (ps++[q]) qs:=by
 refine⟨?_,h.2.1,fun p hp=>?_⟩
 · have:=h.1
   rwa [List.append_assoc,List.singleton_append]
 · rcases List.mem_append.1 hp with hp | hp
   · exact h.2.2 p hp
   · obtain rfl:=List.mem_singleton.1 hp
     exact xk (w:=w) (w':=w) hf Zr fun k hk hq=>⟨qG.2 (Nat.le_trans hM (qG.1 hq)),rfl⟩
theorem osK {α:Type} (K:Knd β) (f:β→α) {N:Nat} {W:World} {g:Nat} {F:α→Nat→Nat→Prop} (hF:∀ a o,F a g o→∃ p,f p=a∧(∀ j u,(K.cs p)[j]? =some u→CellB N W g (o+j) u)∧K.inn N W p):
 ∀ (l:List α) (o:Nat),xn K.n F l g o→∃ ps:List β,ps.map f=l∧(∀ j u,(ps.flatMap K.cs)[j]? =some u→CellB N W g (o+j) u)∧∀ p ∈ ps,K.inn N W p
 | [],_,_=>⟨[],rfl,fun j u h=>by simp at h,fun p hp=>by cases hp⟩
 | a :: r,o,h=>by
   obtain⟨p,h1,h2,h3⟩:=hF a o h.1;obtain⟨ps,h4,h5,h6⟩:=osK K f hF r (o+K.n) h.2;refine⟨p :: ps,by rw[List.map_cons,h1,h4],fun j u hj=>?_,fun q hq=>?_⟩
   · rw[List.flatMap_cons]at hj
     by_cases hlt:j<(K.cs p).length
     · rw[List.getElem?_append_left hlt]at hj
       exact h2 j u hj
     · rw[List.getElem?_append_right (by omega),K.len]at hj
       rw[K.len]at hlt;have:=h5 (j-K.n) u hj;rwa [show o+K.n+(j-K.n)=o+j by omega]at this
   · rcases List.mem_cons.1 hq with rfl | hq
     · exact h3
     · exact h6 q hq
end
structure Src {β:Type} (K:Knd β) (N:Nat) (w:World) (A:Option Addr) (n:Nat) (os:List β):Prop where
 len:n=os.length
 le:n≤281474976710656
 nil:A=none→n=0
 cel:∀ ad,A=some ad→∀ j u,(os.flatMap K.cs)[j]? =some u→ad.block<N∧w.cell? (ad.add j)=some u
 inn:∀ p ∈ os,K.inn N w p
theorem src_of {α β:Type} (K:Knd β) (f:β→α) {N:Nat} {W:World} {A:Option Addr} {n c:Nat} {l:List α} {F:α→Nat→Nat→Prop} (hF:∀ g a o,F a g o→∃ p,f p=a∧(∀ j u,(K.cs p)[j]? =some u→CellB N W g (o+j) u)∧K.inn N W p)
 (h:xF (.slice A n c) l.length (xn K.n F l)):∃ os:List β,os.map f=l∧Src K N W A n os:=by
 obtain⟨A',c',hv,hn,hr⟩:=h;injection hv with e1 e2 e3;subst e1 e2 e3;by_cases h0:0<l.length
 · obtain⟨g,o,hA,hl⟩:=hr h0
   obtain⟨ps,h1,h2,h3⟩:=osK K f (hF g) l o hl;refine⟨ps,h1,by rw[←h1,List.length_map],hn,fun h=>absurd (hA.symm.trans h) (by simp),fun ad had j u hu=>?_,h3⟩;rw[hA]at had;injection had with had;subst had;rw[show (⟨g,o,none⟩:Addr).add j=⟨g,o+j,none⟩ by unfold Addr.add;split <;> simp_all];exact⟨(h2 j u hu).1,(h2 j u hu).2⟩
 · obtain rfl:l=[]:=List.eq_nil_of_length_eq_zero (by omega)
   exact⟨[],rfl,rfl,hn,fun _=>rfl,fun ad _ j u hu=>by simp at hu,fun p hp=>by cases hp⟩
theorem Src.below {β:Type} {K:Knd β} {N:Nat} {w w':World} {A:Option Addr} {n:Nat} {os:List β} (h:Src K N w A n os) (hb:Below N w w'):Src K N w' A n os where
 len:=h.len
 le:=h.le
 nil:=h.nil
 cel ad had j u hu:=⟨(h.cel ad had j u hu).1,(hb.cell (p:=ad.add j) (by have:=(h.cel ad had j u hu).1;unfold Addr.add;split <;> exact this)).trans (h.cel ad had j u hu).2⟩
 inn p hp:=K.mono p (fun g o u hc=>hc.below hb Zr) (h.inn p hp)
theorem Src.elems {β:Type} {K:Knd β} {N:Nat} {w:World} {A:Option Addr} {n:Nat} {os:List β} (h:Src K N w A n os):(os.flatMap K.cs).length=n * K.n:=by rw[yW,h.len]
def kX:Knd (Ex × Value) where
 T:=116
 n:=5
 cs p:=[.int .i64 p.1.kind,.int .i64 p.1.op,.int .i64 p.1.n,.string p.1.name,p.2]
 inn N w p:=vw p.1.n∧qw N w p.2 p.1.args
 len _:=rfl
 mono _ hc h:=⟨h.1,h.2.imp hc⟩
def kS4:Knd StP4 where
 T:=88
 n:=6
 cs p:=stC p
 inn N w p:=stIn N w p
 len p:=stC_len p
 mono _ hc h:=stIn_imp hc h
theorem RdEs_RdL (B:Nat) (w:World):∀ (l:List Ex) (g o:Nat),jM B w l g o→xn 5 (fun a g o=>RdE B w a g o) l g o
 | [],_,_,_=>trivial
 | e :: r,g,o,h=>by rw[jM]at h;exact⟨h.1,RdEs_RdL B w r g (o+5) h.2⟩
theorem RdSs_RdL (B:Nat) (w:World):∀ (l:List St) (g o:Nat),jf B w l g o→xn 6 (fun a g o=>RdS B w a g o) l g o
 | [],_,_,_=>trivial
 | e :: r,g,o,h=>by rw[jf]at h;exact⟨h.1,RdSs_RdL B w r g (o+6) h.2⟩
theorem src_exs {N:Nat} {w:World} {A:Option Addr} {n c:Nat} {l:List Ex} (h:qw N w (.slice A n c) l):∃ os:List (Ex × Value),os.map (·.1)=l∧Src kX N w A n os:=
 src_of kX (·.1) (F:=fun a g o=>RdE N w a g o) (fun g a o h=>by
  obtain⟨k,op,m,s,args⟩:=a;rw[RdE]at h;obtain⟨h0,h1,h2,h3,h4,v,h5,h6⟩:=h;refine⟨(.mk k op m s args,v),rfl,fun j u hj=>?_,h4,h6⟩
  match j with
  | 0=>simp[kX,Ex.kind]at hj;subst hj;exact h0
  | 1=>simp[kX,Ex.op]at hj;subst hj;exact h1
  | 2=>simp[kX,Ex.n]at hj;subst hj;exact h2
  | 3=>simp[kX,Ex.name]at hj;subst hj;exact h3
  | 4=>simp[kX]at hj;subst hj;exact h5
  | j+5=>simp[kX]at hj) (xF.imp h fun g o=>RdEs_RdL N w l g o)
theorem src_sts {N:Nat} {w:World} {A:Option Addr} {n c:Nat} {l:List St} (h:SlS N w (.slice A n c) l):∃ os:List StP4,os.map (·.s)=l∧Src kS4 N w A n os:=
 src_of kS4 (·.s) (F:=fun a g o=>RdS N w a g o) (fun g a o h=>by
  obtain⟨k,ty,s,args,thn,els⟩:=a;rw[RdS]at h;obtain⟨h0,h1,h2,⟨v3,h3,s3⟩,⟨v4,h4,s4⟩,⟨v5,h5,s5⟩⟩:=h;refine⟨⟨.mk k ty s args thn els,v3,v4,v5⟩,rfl,fun j u hj=>?_,s3,s4,s5⟩
  match j with
  | 0=>simp[kS4,stC]at hj;subst hj;exact h0
  | 1=>simp[kS4,stC]at hj;subst hj;exact h1
  | 2=>simp[kS4,stC]at hj;subst hj;exact h2
  | 3=>simp[kS4,stC]at hj;subst hj;exact h3
  | 4=>simp[kS4,stC]at hj;subst hj;exact h4
  | 5=>simp[kS4,stC]at hj;subst hj;exact h5
  | j+6=>simp[kS4,stC]at hj) (xF.imp h fun g o=>RdSs_RdL N w l g o)
theorem src_pas {N:Nat} {w:World} {A:Option Addr} {n c:Nat} {l:List Pa} (h:SlP N w (.slice A n c) l):Src kP N w A n l:=by
 replace h:=h.1
 obtain⟨os,h1,h2⟩:=src_of kP (fun p=>p) (F:=fun a g o=>RdP N w a g o) (fun g a o h=>⟨a,rfl,fun j u hj=>by
  match j with
  | 0=>simp[kP]at hj;subst hj;exact h.1
  | 1=>simp[kP]at hj;subst hj;exact h.2
  | j+2=>simp[kP]at hj,trivial⟩) h
 rw[List.map_id']at h1;exact h1 ▸ h2
theorem src_ars {N:Nat} {w:World} {A:Option Addr} {n c:Nat} {l:List Ar} (h:SlA N w (.slice A n c) l):Src kA N w A n l:=by
 obtain⟨os,h1,h2⟩:=src_of kA (fun p=>p) (F:=fun a g o=>RdA N w a g o) (fun g a o h=>⟨a,rfl,fun j u hj=>by
  match j with
  | 0=>simp[kA]at hj;subst hj;exact h.1
  | 1=>simp[kA]at hj;subst hj;exact h.2
  | j+2=>simp[kA]at hj,trivial⟩) h
 rw[List.map_id']at h1;exact h1 ▸ h2
theorem src_fus {N:Nat} {w:World} {A:Option Addr} {n c:Nat} {l:List Fu} (h:SlF N w (.slice A n c) l):∃ os:List FuV,os.map (·.f)=l∧Src kF N w A n os:=
 src_of kF (·.f) (F:=fun a g o=>RdF N w a g o) (fun g a o h=>by
  obtain⟨h0,h1,⟨v2,h2,s2⟩,⟨v3,h3,s3⟩⟩:=h;refine⟨⟨a,v2,v3⟩,rfl,fun j u hj=>?_,s2,s3⟩
  match j with
  | 0=>simp[kF]at hj;subst hj;exact h0
  | 1=>simp[kF]at hj;subst hj;exact h1
  | 2=>simp[kF]at hj;subst hj;exact h2
  | 3=>simp[kF]at hj;subst hj;exact h3
  | j+4=>simp[kF]at hj) h
theorem OutK.exprs {B:Nat} {w:World} {v:Value} {ps:List (Ex × Value)} (h:OutK kX B w v ps) (hn:ps.length≤281474976710656):zU B w (ps.map (·.1)) v:=
 xi.read ⟨ps,rfl,h.1,h.2⟩ (by rw[List.length_map];exact hn)
theorem OutK.stmts {B:Nat} {w:World} {v:Value} {ps:List StP4} (h:OutK kS4 B w v ps) (hn:ps.length≤281474976710656):zT B w (ps.map (·.s)) v:=
 OutS.read ⟨ps,rfl,h.1,h.2⟩ (by rw[List.length_map];exact hn)
theorem cs_one {β:Type} (K:Knd β) (hK:∀ N w p,K.inn N w p→∀ u ∈ K.cs p,u.oneCell'=true) {N:Nat} {w:World} {os:List β} (h:∀ p ∈ os,K.inn N w p):∀ u ∈ os.flatMap K.cs,u.oneCell'=true:=fun u hu=>by
 obtain⟨p,hp,hx⟩:=List.mem_flatMap.1 hu;exact hK N w p (h p hp) u hx
theorem vp {v:Value} {n:Nat} {F:Nat→Nat→Prop} (h:xF v n F):v.oneCell'=true:=by
 obtain⟨A,c,rfl,_⟩:=h;rfl
theorem kX_one:∀ N w p,kX.inn N w p→∀ u ∈ kX.cs p,u.oneCell'=true:=fun N w p h u hu=>by
 simp[kX]at hu;rcases hu with rfl | rfl | rfl | rfl | rfl <;> first | rfl | exact vp h.2
theorem kS4_one:∀ N w p,kS4.inn N w p→∀ u ∈ kS4.cs p,u.oneCell'=true:=fun N w p h u hu=>by
 obtain⟨⟨k,t,n,a,b,c⟩,v3,v4,v5⟩:=p;simp[kS4,stC]at hu;rcases hu with rfl | rfl | rfl | rfl | rfl | rfl <;> first | rfl | exact vp h.1 | exact vp h.2.1 | exact vp h.2.2
theorem kF_one:∀ N w p,kF.inn N w p→∀ u ∈ kF.cs p,u.oneCell'=true:=fun N w p h u hu=>by
 simp[kF]at hu;rcases hu with rfl | rfl | rfl | rfl <;> first | rfl | exact vp h.1.1 | exact vp h.2
theorem kP_one:∀ N w p,kP.inn N w p→∀ u ∈ kP.cs p,u.oneCell'=true:=fun N w p h u hu=>by
 simp[kP]at hu;rcases hu with rfl | rfl <;> rfl
theorem kA_one:∀ N w p,kA.inn N w p→∀ u ∈ kA.cs p,u.oneCell'=true:=fun N w p h u hu=>by
 simp[kA]at hu;rcases hu with rfl | rfl <;> rfl
end Go.Proofs.YtfghofifjnbicaaGreatDoor
