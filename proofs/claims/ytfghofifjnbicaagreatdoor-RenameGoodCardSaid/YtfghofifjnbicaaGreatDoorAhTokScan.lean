import Derived.Test.YtfghofifjnbicaaGreatDoorAhZed
import Derived.Test.YtfghofifjnbicaaGreatDoorAhTokLeaf
import Derived.StillTailTactics
import Derived.Deep.RegionHeld3
import Derived.Deep.RegionLaw
import Derived.Deep.QuietTactic
import Derived.BigQuiet
import Derived.Laws.OwnMore
import Derived.Test.YtfghofifjnbicaaGreatDoorAhTreeVals
import Derived.Test.YtfghofifjnbicaaGreatDoorAhTyMath
import Derived.Test.YtfghofifjnbicaaGreatDoorAhParTot
set_option linter.unusedSimpArgs false
set_option linter.unusedVariables false
set_option maxRecDepth 100000
/- The contracts of the scanner of package token. -/
namespace Go.Proofs.YtfghofifjnbicaaGreatDoor
open Lib (hid)
open Go.RowKit
def Is (w:World) (g:Nat) (t:TypeId) (cs:Array Value):Prop:=w.heap[g]? =some (.cells cs t (0,0))
theorem Is.cell {w:World} {g:Nat} {t:TypeId} {cs:Array Value} (h:Is w g t cs) (i:Nat):w.cell? ⟨g,i,none⟩=cs[i]?:=cell_of_row w g i cs t (0,0) h
theorem Is.frozen {w:World} {g:Nat} {t:TypeId} {cs:Array Value} (h:Is w g t cs) (i:Nat):w.frozen? ⟨g,i,none⟩=false:=by
 unfold Is at h;simp[World.frozen?,h]
theorem Is.lt {w:World} {g:Nat} {t:TypeId} {cs:Array Value} (h:Is w g t cs):g<w.heap.size:=(Array.getElem?_eq_some_iff.1 h).1
theorem Is.below {w w':World} {g:Nat} {t:TypeId} {cs:Array Value} {B:Nat} (h:Is w g t cs) (hb:Below B w w') (hg:g<B):Is w' g t cs:=(hb.block g hg).trans h
theorem Is.set {w:World} {g:Nat} {t:TypeId} {cs:Array Value} (h:Is w g t cs) (i:Nat) (u:Value):Is (w.setCell ⟨g,i,none⟩ u) g t (cs.setIfInBounds i u):=by
 unfold Is at h ⊢;simp[World.setCell,Array.getElem?_modify,h]
section
variable {a w:World} {g:Nat}
end
def q8 (ts:List Tok):List Value:=ts.flatMap fun t=>[.int .i64 t.kind,.string ⟨t.text.toArray⟩,.int .i64 (t.line:Int)]
theorem uE (ts:List Tok) (t:Tok):q8 (ts++[t])=q8 ts++[.int .i64 t.kind,.string ⟨t.text.toArray⟩,.int .i64 (t.line:Int)]:=by simp[q8]
def yE (w:World) (B:Nat) (v:Value) (ts:List Tok):Prop:=w.ownsRow B 57 3 v ts.length (q8 ts)
theorem qR {w w':World} {B:Nat} {e:TypeId} {size n:Nat} {v:Value} {xs:List Value} (h:w.ownsRow B e size v n xs) (hk:∀ k,v.ownBlock=some k→w'.heap[k]? =w.heap[k]?):w'.ownsRow B e size v n xs:=by
 refine⟨h.1,?_⟩;rcases h.2 with h0 | ⟨g,cap,cur,rfl,h1,h2,h3⟩
 · exact .inl h0
 · exact .inr ⟨g,cap,cur,rfl,h1,(hk g rfl).trans h2,h3⟩
theorem qJ {w:World} {B:Nat} {e:TypeId} {size n:Nat} {v:Value} {xs:List Value} (h:w.ownsRow B e size v n xs):∀ k,v.ownBlock=some k→k<w.heap.size∧B≤k:=by
 intro k hk;rcases h.2 with⟨rfl,_⟩ | ⟨g,cap,cur,rfl,h1,h2,_⟩
 · cases hk
 · injection hk with hk
   subst hk;exact⟨(Array.getElem?_eq_some_iff.1 h2).1,h1⟩
theorem zj {w:World} {B:Nat} {e:TypeId} {size n:Nat} {v:Value} {xs:List Value} (h:w.ownsRow B e size v n xs):∃ A c,v=.slice A n c:=by
 rcases h.2 with⟨rfl,rfl⟩ | ⟨g,cap,cur,rfl,_⟩
 · exact⟨none,0,rfl⟩
 · exact⟨_,cap,rfl⟩
theorem own_ne {w:World} {B:Nat} {e t:TypeId} {size n:Nat} {v:Value} {xs:List Value} {g:Nat} {cs:Array Value} (h:w.ownsRow B e size v n xs) (hI:Is w g t cs) (hne:e≠t):v.ownBlock≠some g:=by
 rcases h.2 with⟨rfl,_⟩ | ⟨g',cap,cur,rfl,h1,h2,_⟩
 · simp[Value.ownBlock]
 · intro hk
   injection hk with hk;subst hk;rw[hI]at h2;injection h2 with h2;injection h2 with _ h2;exact hne h2.symm
theorem qy {w w':World} {B C:Nat} {e:TypeId} {size n:Nat} {v:Value} {xs:List Value} (h:w.ownsRow B e size v n xs) (hb:Below C w w') (hC:w.heap.size≤C):w'.ownsRow B e size v n xs:=
 qR h fun k hk=>hb.block k (Nat.lt_of_lt_of_le (qJ h k hk).1 hC)
theorem tok_info:(Tryz.prog.info? 57).map (fun i=>(i.zero,i.size,i.bytes))=some (some (.agg #[.int .i64 0,.string ⟨#[]⟩,.int .i64 0]),3,32):=by kernel_rfl
def hole (b:Nat) (w:World):World:={ w with heap:=w.heap.setIfInBounds b (.cells #[] 0 (0,0)) }
theorem qD (b:Nat) (w:World):(hole b w).heap.size=w.heap.size:=by simp[hole]
theorem jb {b k:Nat} (w:World) (h:k≠b):(hole b w).heap[k]? =w.heap[k]?:=by
 simp only[hole,Array.getElem?_setIfInBounds];rw[if_neg (fun e=>h e.symm)]
theorem hole_b {b:Nat} (w:World):(hole b w).heap[b]? =if b<w.heap.size then some (.cells #[] 0 (0,0)) else none:=by
 simp only[hole,Array.getElem?_setIfInBounds,if_true]
def OffB (b B:Nat) (w w':World):Prop:=Below B (hole b w) (hole b w')
theorem OffB.mk' {b B:Nat} {w w':World} (h1:w'.os=w.os) (h2:w'.tape=w.tape) (h3:w'.output=w.output) (h4:w.heap.size≤w'.heap.size) (hb:b<w.heap.size) (h5:∀ k,k<B→k≠b→w'.heap[k]? =w.heap[k]?):OffB b B w w':=by
 refine⟨h1,h2,h3,by rw[qD,qD];exact h4,fun k hk=>?_⟩;by_cases e:k=b
 · subst e
   rw[hole_b,hole_b,if_pos hb,if_pos (by omega)]
 · rw[jb w' e,jb w e]
   exact h5 k hk e
theorem OffB.refl (b B:Nat) (w:World):OffB b B w w:=Below.refl _ _
theorem OffB.trans {b B:Nat} {w w' w2:World} (h:OffB b B w w') (g:OffB b B w' w2):OffB b B w w2:=Below.trans h g
theorem OffB.mono {b B B':Nat} {w w':World} (h:OffB b B w w') (hB:B'≤B):OffB b B' w w':=Below.mono h hB
theorem OffB.size {b B:Nat} {w w':World} (h:OffB b B w w'):w.heap.size≤w'.heap.size:=by have:=Below.size h;rw[qD,qD]at this;exact this
theorem OffB.block {b B k:Nat} {w w':World} (h:OffB b B w w') (hk:k<B) (hb:k≠b):w'.heap[k]? =w.heap[k]?:=by have:=Below.block h k hk;rw[jb w hb,jb w' hb]at this;exact this
theorem OffB.cell {b B k o:Nat} {w w':World} (h:OffB b B w w') (hk:k<B) (hb:k≠b):w'.cell? ⟨k,o,none⟩=w.cell? ⟨k,o,none⟩:=World.cell?_of_block (w:=w) (h.block hk hb)
theorem OffB.of_below {b B:Nat} {w w':World} (h:Below B w w') (hb:b<w.heap.size):OffB b B w w':=OffB.mk' h.os h.tape h.output h.size hb fun k hk _=>h.block k hk
theorem OffB.drewN {b B:Nat} {w w':World} (h:OffB b B w w') (n:Nat):OffB b B w (w'.drewN n):=Below.trans h ⟨rfl,rfl,rfl,Nat.le_refl _,fun _ _=>rfl⟩
theorem OffB.alloc {b B:Nat} {w w':World} (h:OffB b B w w') (hb:b<w'.heap.size) (hB:B≤w'.heap.size) (o:Obj):OffB b B w (w'.alloc o):=
 h.trans (OffB.of_below ((Below.refl B w').alloc hB o) hb)
theorem OffB.setb {b B:Nat} {w w':World} (h:OffB b B w w') (hb:b<w'.heap.size) (i:Nat) (u:Value):OffB b B w (w'.setCell ⟨b,i,none⟩ u):=
 h.trans (OffB.mk' rfl rfl rfl (by simp[World.setCell]) hb fun k _ hne=>Below.heap_setCell w' _ u k hne)
theorem OffB.setCell {b B g:Nat} {w w':World} (h:OffB b B w w') (hb:b<w'.heap.size) (hg:B≤g) (i:Nat) (u:Value):OffB b B w (w'.setCell ⟨g,i,none⟩ u):=
 h.trans (OffB.mk' rfl rfl rfl (by simp[World.setCell]) hb fun k hk _=>Below.heap_setCell w' _ u k (by show k≠g;omega))
theorem CellB.unhole {b B:Nat} {w:World} {g o:Nat} {u:Value} (h:CellB B (hole b w) g o u):CellB B w g o u:=by
 refine⟨h.1,?_⟩;by_cases e:g=b
 · subst e
   have h2:=h.2;unfold World.cell? at h2;rw[show (hole g w).heap[(⟨g,o,none⟩:Addr).block]? =(hole g w).heap[g]? from rfl,hole_b]at h2;split at h2
   · rename_i heq
     split at heq
     · injection heq with heq
       injection heq with e1 _ _;subst e1;simp at h2
     · cases heq
   · cases h2
 · rw[←h.2]
   exact(World.cell?_of_block (w:=hole b w) (w':=w) (jb w e).symm)
def vy (b:Nat) (V:Value) (all:List Tok) (w:World):Prop:=
 ∃ (g c:Nat),V=.slice (some ⟨g,0,none⟩) all.length c∧g≠b∧g<w.heap.size∧(∀ (j:Nat) u,(q8 all)[j]? =some u→w.cell? ⟨g,j,none⟩=some u)∧all.length≤1000000∧∀ t ∈ all,t.kind=0→jm t.text=true∧(⟨t.text.toArray⟩:ByteArray).size≤281474976710656
theorem vy.off {b:Nat} {V:Value} {all:List Tok} {w w':World} (h:vy b V all w) (ho:OffB b w.heap.size w w'):vy b V all w':=by
 obtain⟨g,c,hv,hb,hg,hc,hl,hn⟩:=h;exact⟨g,c,hv,hb,Nat.lt_of_lt_of_le hg ho.size,fun j u hu=>(ho.cell hg hb).trans (hc j u hu),hl,hn⟩
def zS (b:Nat) (V:Value) (all r:List Tok) (bd dp:Bool) (w:World):Prop:=
 Is w b 54 #[V,.int .i64 ((all.length-r.length:Nat):Int),.bool bd,.bool dp]∧vy b V all w∧r <:+all∧ze r
theorem zS.lt {b:Nat} {V:Value} {all r:List Tok} {bd dp:Bool} {w:World} (h:zS b V all r bd dp w):b<w.heap.size:=h.1.lt
theorem zS.cells {b:Nat} {V:Value} {all r:List Tok} {bd dp:Bool} {w:World} (h:zS b V all r bd dp w):
 w.cell? ⟨b,0,none⟩=some V∧w.cell? ⟨b,1,none⟩=some (.int .i64 ((all.length-r.length:Nat):Int))∧w.cell? ⟨b,2,none⟩=some (.bool bd)∧w.cell? ⟨b,3,none⟩=some (.bool dp):=
 ⟨(h.1.cell 0).trans rfl,(h.1.cell 1).trans rfl,(h.1.cell 2).trans rfl,(h.1.cell 3).trans rfl⟩
theorem suffix_at {all r:List Tok} (h:r <:+all) {t:Tok} {q:List Tok} (e:r=t :: q):all[all.length-r.length]? =some t:=by
 obtain⟨p,rfl⟩:=h;subst e;rw[List.length_append,Nat.add_sub_cancel,List.getElem?_append_right Zr,Nat.sub_self];rfl
theorem tok_cells (ts:List Tok) (k:Nat) (t:Tok) (h:ts[k]? =some t):(q8 ts)[k * 3]? =some (.int .i64 t.kind)∧(q8 ts)[k * 3+1]? =some (.string ⟨t.text.toArray⟩)∧(q8 ts)[k * 3+2]? =some (.int .i64 (t.line:Int)):=by
 induction ts generalizing k with
 | nil=>simp at h
 | cons a r ih=>
   have e:q8 (a :: r)=.int .i64 a.kind :: .string ⟨a.text.toArray⟩ :: .int .i64 (a.line:Int) :: q8 r:=by simp[q8]
   rw[e];cases k with
   | zero=>
     simp at h;subst h;exact⟨rfl,rfl,rfl⟩
   | succ k=>
     obtain⟨h1,h2,h3⟩:=ih k (by simpa using h);rw[show (k+1) * 3=k * 3+1+1+1 by omega];exact⟨h1,h2,h3⟩
theorem zS.tok {b:Nat} {V:Value} {all r:List Tok} {bd dp:Bool} {w:World} (h:zS b V all r bd dp w):∃ (g c k:Nat) (t:Tok) (q:List Tok),V=.slice (some ⟨g,0,none⟩) all.length c∧r=t :: q∧k=all.length-r.length∧k<all.length∧all.length≤1000000∧
 w.cell? ⟨b,0,none⟩=some (.slice (some ⟨g,0,none⟩) all.length c)∧w.cell? ⟨b,1,none⟩=some (.int .i64 (k:Int))∧w.cell? ⟨b,2,none⟩=some (.bool bd)∧w.cell? ⟨b,3,none⟩=some (.bool dp)∧
 w.cell? ⟨g,k * 3,none⟩=some (.int .i64 t.kind)∧w.cell? ⟨g,k * 3+1,none⟩=some (.string ⟨t.text.toArray⟩)∧w.cell? ⟨g,k * 3+2,none⟩=some (.int .i64 (t.line:Int)):=by
 obtain⟨c0,c1,c2,c3⟩:=h.cells;obtain⟨_,⟨g,c,hv,_,_,hc,hl,_⟩,hs,he⟩:=h;obtain⟨t,q,rfl⟩:=List.exists_cons_of_ne_nil he.ne;have ha:=suffix_at hs rfl;obtain⟨h1,h2,h3⟩:=tok_cells all _ t ha;refine⟨g,c,_,t,q,hv,rfl,rfl,?_,hl,hv ▸ c0,c1,c2,c3,hc _ _ h1,hc _ _ h2,hc _ _ h3⟩;exact(List.getElem?_eq_some_iff.1 ha).1
def PR.un {α:Type} (x:PR α):PR Unit:=x.bind fun _ r=>.ok () r
def zg {α:Type}:PR α→Bool
 | .ok _ _=>false
 | _=>true
def zP {α:Type} (s:List UInt8):PR α→Bool
 | .ok _ r=>z6 s r
 | _=>false
def qx (b:Nat) (V:Value) (all:List Tok) (x:PR Unit) (w:World):Prop:=
 match x with
 | .ok _ r=>zS b V all r false false w
 | .bad r=>zS b V all r true false w
 | .deep r=>zS b V all r false true w
 | .out=>False
def qn {α:Type} (x:PR α) (P:α→Prop):Prop:=
 match x with
 | .ok a _=>P a
 | .bad _=>∃ a,P a
 | .deep _=>∃ a,P a
 | .out=>True
theorem zS.off {b:Nat} {V:Value} {all r:List Tok} {bd dp:Bool} {w w':World} (h:zS b V all r bd dp w) (hb:Below w.heap.size w w'):zS b V all r bd dp w':=
 ⟨h.1.below hb h.1.lt,h.2.1.off (OffB.of_below hb h.lt),h.2.2⟩
theorem qx.below {b:Nat} {V:Value} {all:List Tok} {x:PR Unit} {w w':World} (h:qx b V all x w) (hb:Below w.heap.size w w'):qx b V all x w':=by
 cases x with
 | ok a r=>exact zS.off h hb
 | bad r=>exact zS.off h hb
 | deep r=>exact zS.off h hb
 | out=>exact h
theorem qx.lt {b:Nat} {V:Value} {all:List Tok} {x:PR Unit} {w:World} (h:qx b V all x w):b<w.heap.size:=by
 cases x with
 | ok a r=>exact zS.lt h
 | bad r=>exact zS.lt h
 | deep r=>exact zS.lt h
 | out=>exact absurd h id
theorem qx.drewN {b:Nat} {V:Value} {all:List Tok} {x:PR Unit} {w:World} (h:qx b V all x w) (n:Nat):qx b V all x (w.drewN n):=h.below (ql Zb n)
theorem qx.box {b:Nat} {V:Value} {all:List Tok} {x:PR Unit} {w:World} (h:qx b V all x w):∃ r bd dp,zS b V all r bd dp w∧zg x=(bd || dp)∧(x=.ok () r∧bd=false∧dp=false∨x=.bad r∧bd=true∧dp=false∨x=.deep r∧bd=false∧dp=true):=by
 cases x with
 | ok a r=>exact⟨r,false,false,h,rfl,.inl ⟨rfl,rfl,rfl⟩⟩
 | bad r=>exact⟨r,true,false,h,rfl,.inr (.inl ⟨rfl,rfl,rfl⟩)⟩
 | deep r=>exact⟨r,false,true,h,rfl,.inr (.inr ⟨rfl,rfl,rfl⟩)⟩
 | out=>exact absurd h id
theorem over_any {b:Nat} {V:Value} {all:List Tok} {x:PR Unit} {w:World} (h:qx b V all x w):Calls Tryz.prog 39 #[.pointer (some ⟨b,0,none⟩)] w fun e w'=>e=.returned (.bool (zg x))∧w'=w:=by
 obtain⟨r,bd,dp,hp,ho,_⟩:=h.box;obtain⟨_,_,c2,c3⟩:=hp.cells;rw[ho];clear h hp ho;cases bd
 all_goals
  go_enter Tryz.func39,Tryz.ntmps39;go_wp2;go_ret;exact⟨by simp,rfl⟩
theorem zl {b:Nat} {V:Value} {all:List Tok} {x:PR Unit} {w:World} (h:qx b V all x w) (v:Bool) (hv:zg x=v):Calls Tryz.prog 39 #[.pointer (some ⟨b,0,none⟩)] w fun e w'=>e=.returned (.bool v)∧w'=w:=hv ▸ over_any h
theorem isS_head (s:List UInt8) (t:Tok) (r:List Tok):z6 s (t :: r)=(decide (t.kind=2) && t.text == s):=rfl
theorem text_eq (t:List UInt8) (s:ByteArray):(t == s.data.toList)=((⟨t.toArray⟩:ByteArray).toList == s.toList):=by rw[Lib.toList_data,Lib.toList_data]
theorem is_live {b:Nat} {V:Value} {all r:List Tok} {w:World} (h:zS b V all r false false w) (s:ByteArray) (v:Bool) (hv:z6 s.data.toList r=v):
 Calls Tryz.prog 67 #[.pointer (some ⟨b,0,none⟩),.string s] w fun e w'=>e=.returned (.bool v)∧∃ m,w'=w.drewN m:=by
 have hst:∀ m,qx b V all (.ok () r) (w.drewN m):=fun m=>qx.drewN (x:=.ok () r) h m
 obtain⟨g,c,k,t,q,rfl,rfl,hk,hlt,hl,c0,c1,c2,c3,t0,t1,t2⟩:=h.tok;have HST:=hid hst;clear h hk hst;have hlk:(k:Int)<all.length:=by omega
 rw[isS_head,text_eq]at hv;obtain⟨T,hT⟩:∃ T:ByteArray,T=⟨t.text.toArray⟩:=⟨_,rfl⟩
 rw[←hT]at hv t1;clear hT;cases hk2:decide (t.kind=2) with
 | true=>
   have e2:t.kind=2:=of_decide_eq_true hk2;rw[e2]at t0;rw[hk2,Bool.true_and]at hv;clear hk2 e2;go_enter Tryz.func67,Tryz.ntmps67;go_wp2
   go_quiet ((go_at_call 39;exact Calls.quiet_of_same (zl (HST.out _) false rfl)))
   go_wp2;go_ret;exact⟨rfl,_,rfl⟩
 | false=>
   have e2:(t.kind == 2)=false:=by simpa using hk2
   rw[hk2,Bool.false_and]at hv;subst hv;clear hk2;go_enter Tryz.func67,Tryz.ntmps67;go_wp2
   go_quiet ((go_at_call 39;exact Calls.quiet_of_same (zl (HST.out _) false rfl)))
   go_wp2;go_ret;exact⟨rfl,_,rfl⟩
theorem is_over {b:Nat} {V:Value} {all:List Tok} {x:PR Unit} {w:World} (h:qx b V all x w) (ho:zg x=true) (s:ByteArray):
 Calls Tryz.prog 67 #[.pointer (some ⟨b,0,none⟩),.string s] w fun e w'=>e=.returned (.bool false)∧∃ m,w'=w.drewN m:=by
 have hst:∀ m,qx b V all x (w.drewN m):=fun m=>h.drewN m
 obtain⟨r,bd,dp,hp,_,_⟩:=h.box;obtain⟨g,c,k,t,q,rfl,rfl,hk,hlt,hl,c0,c1,c2,c3,t0,t1,t2⟩:=hp.tok;have HST:=hid hst;have HO:=hid ho;clear h hk hst hp ho;have hlk:(k:Int)<all.length:=by omega
 go_enter Tryz.func67,Tryz.ntmps67;go_wp2
 go_quiet ((go_at_call 39;exact Calls.quiet_of_same (zl (HST.out _) true HO.out)))
 go_wp2;go_ret;exact⟨rfl,_,rfl⟩
theorem is_is {b:Nat} {V:Value} {all:List Tok} {x:PR Unit} {w:World} (h:qx b V all x w) (s:ByteArray) (v:Bool) (hv:zP s.data.toList x=v):
 Calls Tryz.prog 67 #[.pointer (some ⟨b,0,none⟩),.string s] w fun e w'=>e=.returned (.bool v)∧∃ m,w'=w.drewN m:=by
 subst hv;cases x with
 | ok a r=>exact is_live h s _ rfl
 | bad r=>exact is_over h rfl s
 | deep r=>exact is_over h rfl s
 | out=>exact absurd h id
theorem yc {s:List UInt8} {x:PR Unit} (h:zP s x=true):∃ r,x=.ok () r∧z6 s r=true:=by
 cases x with
 | ok a r=>exact⟨r,rfl,h⟩
 | bad r=>cases h
 | deep r=>cases h
 | out=>cases h
theorem sub_tail {n k:Nat} (h:k+1≤n):((n-(k+1):Nat):Int)+1=((n-k:Nat):Int):=by omega
theorem suffix_len {a r:List Tok} (h:r <:+a):r.length≤a.length:=h.length_le
theorem zS.next {b:Nat} {V:Value} {all r:List Tok} {w:World} (h:zS b V all r false false w) (hk:yn r≠3):zS b V all r.tail false false (w.setCell ⟨b,1,none⟩ (.int .i64 (((all.length-r.length:Nat):Int)+1))):=by
 have hlt:=h.lt;have ht:=jB h.2.2.2;have hs:=suffix_len h.2.2.1;refine⟨?_,h.2.1.off ((OffB.refl b _ w).setb hlt 1 _),(List.tail_suffix r).trans h.2.2.1,h.2.2.2.tail hk⟩;have:=h.1.set 1 (.int .i64 (((all.length-r.length:Nat):Int)+1));rw[show r.length=r.tail.length+1 by omega,sub_tail (by omega)]at this ⊢;exact this
def qY (b:Nat) (V:Value) (all:List Tok) (w:World) (x:PR Unit) (w':World):Prop:=qx b V all x w'∧OffB b w.heap.size w w'
theorem qY.st {b:Nat} {V:Value} {all:List Tok} {w w':World} {x:PR Unit} (h:qY b V all w x w'):qx b V all x w':=h.1
theorem qY.off {b:Nat} {V:Value} {all:List Tok} {w w':World} {x:PR Unit} (h:qY b V all w x w'):OffB b w.heap.size w w':=h.2
theorem zb {b:Nat} {V:Value} {all:List Tok} {x:PR Unit} {w:World} (h:qx b V all x w) (s:ByteArray) (hv:zP s.data.toList x=true):
 Calls Tryz.prog 42 #[.pointer (some ⟨b,0,none⟩),.string s] w fun e w'=>e=.returned (.bool true)∧qY b V all w (x.bind fun _ r=>.ok () r.tail) w':=by
 obtain⟨r,rfl,hs⟩:=yc hv;have hN:∀ n,zS b V all r.tail false false ((w.drewN n).setCell ⟨b,1,none⟩ (.int .i64 (((all.length-r.length:Nat):Int)+1))):=fun n=>zS.next (w:=w.drewN n) (qx.drewN (x:=.ok () r) h n) (by rw[(vC hs).1];decide)
 have hO:∀ n,OffB b w.heap.size w ((w.drewN n).setCell ⟨b,1,none⟩ (.int .i64 (((all.length-r.length:Nat):Int)+1))):=fun n=>((OffB.refl b _ w).drewN n).setb (qx.drewN (x:=.ok () r) h n).lt 1 _
 obtain⟨g,c,k,t,q,rfl,rfl,hk,hlt,hl,c0,c1,c2,c3,t0,t1,t2⟩:=(show zS b V all r false false w from h).tok;have f1:=(show zS b _ all _ false false w from h).1.frozen 1;rw[←hk]at hN hO;have HD:Hid (∀ n,qY b (.slice (some ⟨g,0,none⟩) all.length c) all w (.ok () q) ((w.drewN n).setCell ⟨b,1,none⟩ (.int .i64 ((k:Int)+1)))):=fun n=>⟨hN n,hO n⟩
 have H:=hid h;have HV:=hid hv;have hlk:(k:Int)<all.length:=by omega
 clear h hv hk hN hO hs;go_enter Tryz.func42,Tryz.ntmps42;go_wp2_with (go_at_call 67;(with_reducible refine(is_is H.out s true HV.out).mono ?_);rintro e w1 ⟨rfl,m,rfl⟩);go_ret;exact⟨rfl,HD.out m⟩
theorem take_no {b:Nat} {V:Value} {all:List Tok} {x:PR Unit} {w:World} (h:qx b V all x w) (s:ByteArray) (hv:zP s.data.toList x=false):
 Calls Tryz.prog 42 #[.pointer (some ⟨b,0,none⟩),.string s] w fun e w'=>e=.returned (.bool false)∧∃ m,w'=w.drewN m:=by
 have H:=hid h;have HV:=hid hv;clear h hv;go_enter Tryz.func42,Tryz.ntmps42;go_wp2_with (go_at_call 67;(with_reducible refine(is_is H.out s false HV.out).mono ?_);rintro e w1 ⟨rfl,m,rfl⟩);go_ret;exact⟨rfl,m,rfl⟩
theorem zF {b:Nat} {V:Value} {all:List Tok} {x:PR Unit} {w:World} (h:qx b V all x w) (s:ByteArray) (hv:zP s.data.toList x=false):
 Calls Tryz.prog 42 #[.pointer (some ⟨b,0,none⟩),.string s] w fun e w'=>e=.returned (.bool false)∧qY b V all w x w':=
 (take_no h s hv).mono fun _ _ ⟨he,m,hm⟩=>⟨he,hm ▸ ⟨h.drewN m,(OffB.refl b _ w).drewN m⟩⟩
theorem zS.spoil {b:Nat} {V:Value} {all r:List Tok} {bd:Bool} {w:World} (h:zS b V all r bd false w):zS b V all r true false (w.setCell ⟨b,2,none⟩ (.bool true)):=
 ⟨h.1.set 2 (.bool true),h.2.1.off ((OffB.refl b _ w).setb h.lt 2 _),h.2.2⟩
theorem spoil_did {b:Nat} {V:Value} {all r:List Tok} {bd:Bool} {w:World} (h:zS b V all r bd false w) (m:Nat):qY b V all w (.bad r) ((w.drewN m).setCell ⟨b,2,none⟩ (.bool true)):=by
 have h2:zS b V all r bd false (w.drewN m):=h.off (ql Zb m);exact⟨h2.spoil,((OffB.refl b _ w).drewN m).setb h2.lt 2 _⟩
theorem zW {b:Nat} {V:Value} {all:List Tok} {x:PR Unit} {w:World} (h:qx b V all x w) (s:ByteArray):
 Calls Tryz.prog 44 #[.pointer (some ⟨b,0,none⟩),.string s] w fun e w'=>e=.returned (.tuple #[])∧qY b V all w (x.bind fun _ r=>zL s.data.toList r) w':=by
 cases hv:zP s.data.toList x with
 | true=>
   obtain⟨r,rfl,hs⟩:=yc hv;have e1:zL s.data.toList r=.ok () r.tail:=by unfold zL;rw[if_pos hs]
   rw[show ((PR.ok () r).bind fun _ r=>zL s.data.toList r)=.ok () r.tail from e1];have H:=hid h;have HV:=hid hv;clear h hv hs e1;go_enter Tryz.func44,Tryz.ntmps44;go_wp2_with (go_at_call 42;(with_reducible refine(zb H.out s HV.out).mono ?_);rintro e w1 ⟨rfl,hD⟩)
   go_end0
   exact⟨rfl,hD⟩
 | false=>
   obtain⟨r,bd,dp,hp,ho,hx⟩:=h.box
   have e1:(x.bind fun _ r=>zL s.data.toList r)=if dp then .deep r else .bad r:=by
    rcases hx with⟨rfl,rfl,rfl⟩ | ⟨rfl,rfl,rfl⟩ | ⟨rfl,rfl,rfl⟩
    · show zL s.data.toList r=_
      unfold zL;rw[if_neg (by rw[show z6 s.data.toList r=false from hv];decide)];rfl
    · rfl
    · rfl
   rw[e1];obtain⟨_,_,c2,c3⟩:=hp.cells;have f2:=hp.1.frozen 2;have H:=hid h;have HV:=hid hv;have HP:=hid hp;have HX:=hid hx;clear h hv hp hx ho e1;cases dp with
   | true=>
     go_enter Tryz.func44,Tryz.ntmps44;go_wp2_with (go_at_call 42;(with_reducible refine(take_no H.out s HV.out).mono ?_);rintro e w1 ⟨rfl,m,rfl⟩)
     go_end0
     refine⟨rfl,?_,(OffB.refl b _ w).drewN m⟩;rcases HX.out with⟨_,_,h3⟩ | ⟨_,_,h3⟩ | ⟨rfl,_,_⟩
     · cases h3
     · cases h3
     · exact H.out.drewN m
   | false=>
     go_enter Tryz.func44,Tryz.ntmps44;go_wp2_with (go_at_call 42;(with_reducible refine(take_no H.out s HV.out).mono ?_);rintro e w1 ⟨rfl,m,rfl⟩)
     go_end0
     exact⟨rfl,spoil_did HP.out m⟩
def qF (b:Nat) (V:Value) (all:List Tok) (w:World) {α:Type} (x:PR α) (F:World→α→Value→Prop) (e:Ending) (w':World):Prop:=
 ∃ v,e=.returned v∧qY b V all w x.un w'∧qn x fun a=>F w' a v
def StrV (_:World) (a:ByteArray) (v:Value):Prop:=v=.string a
def IntV (_:World) (a:Int) (v:Value):Prop:=v=.int .i64 a
theorem text_over {b:Nat} {V:Value} {all:List Tok} {x:PR Unit} {w:World} (h:qx b V all x w) (ho:zg x=true) (k:Int):
 Calls Tryz.prog 41 #[.pointer (some ⟨b,0,none⟩),.int .i64 k] w fun e w'=>e=.returned (.string ⟨#[]⟩)∧qY b V all w x w':=by
 have H:=hid h;have HO:=hid ho;clear h ho;go_enter Tryz.func41,Tryz.ntmps41;go_wp2_with (go_at_call 39;(with_reducible refine(zl H.out true HO.out).mono ?_);rintro e w1 ⟨rfl,rfl⟩);go_ret;exact⟨rfl,H.out,OffB.refl _ _ _⟩
theorem box_more {b:Nat} {V:Value} {all:List Tok} {x:PR Unit} {w w1:World} (h:qY b V all w x w1) (hz:w.heap.size≤w1.heap.size) (o:Obj):qY b V all w x (w1.alloc o).drew:=by
 have hb:Below w1.heap.size w1 (w1.alloc o).drew:=(Zb.alloc Zr o).drew;exact⟨h.1.below hb,h.2.trans ((OffB.of_below hb h.1.lt).mono hz)⟩
theorem box_next {b:Nat} {V:Value} {all r:List Tok} {w:World} (h:zS b V all r false false w) (hk:yn r≠3) (o:Obj):qY b V all w (.ok () r.tail) (((w.setCell ⟨b,1,none⟩ (.int .i64 (((all.length-r.length:Nat):Int)+1))).alloc o).drew):=
 box_more (x:=.ok () r.tail) ⟨h.next hk,(OffB.refl b _ w).setb h.lt 1 _⟩ (by simp) o
theorem box_spoil {b:Nat} {V:Value} {all r:List Tok} {w:World} (h:zS b V all r false false w) (o:Obj):qY b V all w (.bad r) (((w.setCell ⟨b,2,none⟩ (.bool true)).alloc o).drew):=
 box_more (x:=.bad r) ⟨h.spoil,(OffB.refl b _ w).setb h.lt 2 _⟩ (by simp) o
theorem qY.drewN {b:Nat} {V:Value} {all:List Tok} {x:PR Unit} {w w1:World} {m:Nat} (h:qY b V all (w.drewN m) x w1):qY b V all w x w1:=⟨h.1,((OffB.refl b _ w).drewN m).trans h.2⟩
theorem text_live {b:Nat} {V:Value} {all r:List Tok} {w:World} (h:zS b V all r false false w) (k:Int) (hk3:k≠3):
 Calls Tryz.prog 41 #[.pointer (some ⟨b,0,none⟩),.int .i64 k] w (qF b V all w (qP k r) StrV):=by
 have hN:=fun (hk:yn r≠3) o=>box_next h hk o
 have hS:=fun o=>box_spoil h o
 have hlt:=h.lt;have f1:=h.1.frozen 1;have f2:=h.1.frozen 2;have HOV:=hid (show qx b V all (.ok () r) w from h);obtain⟨g,c,p,t,q,rfl,rfl,hp,hpl,hl,c0,c1,c2,c3,t0,t1,t2⟩:=h.tok;rw[←hp]at hN;have hlk:(p:Int)<all.length:=by omega
 have hw0:0<w.heap.size:=by omega
 have HS:=hid hS;clear h hp hS;cases hk2:decide (t.kind=k) with
 | true=>
   obtain rfl:t.kind=k:=of_decide_eq_true hk2;have HN:=hid (hN hk3);have ew:qP t.kind (t :: q)=.ok ⟨t.text.toArray⟩ q:=by unfold qP;rw[if_pos (show yn (t :: q)=t.kind from rfl)];rfl
   rw[ew];clear hk2 hN ew;go_enter Tryz.func41,Tryz.ntmps41;go_wp2_with (go_at_call 39;(with_reducible refine(zl HOV.out false rfl).mono ?_);rintro e w1 ⟨rfl,rfl⟩)
   go_region_held3 (fun w'=>w'.cell? ⟨b,0,none⟩=some (.slice (some ⟨g,0,none⟩) all.length c)∧w'.cell? ⟨b,1,none⟩=some (.int .i64 p)∧w'.cell? ⟨g,p * 3,none⟩=some (.int .i64 t.kind)∧w'.cell? ⟨g,p * 3+1,none⟩=some (.string ⟨t.text.toArray⟩)∧w'.cell? ⟨g,p * 3+2,none⟩=some (.int .i64 (t.line:Int))∧0<w'.heap.size)
    (first | go_keep | (go_split_ands;refine⟨?_,?_,?_,?_,?_,?_⟩ <;> assumption))
    (fail)
   go_wp2_with (fail);go_ret;exact⟨_,rfl,HN.out _,rfl⟩
 | false=>
   have e2:(t.kind != k)=true:=by simpa using hk2
   have ew:qP k (t :: q)=.bad (t :: q):=by unfold qP;rw[if_neg (show ¬ yn (t :: q)=k from of_decide_eq_false hk2)]
   rw[ew];clear hk2 hN ew;go_enter Tryz.func41,Tryz.ntmps41;go_wp2_with (go_at_call 39;(with_reducible refine(zl HOV.out false rfl).mono ?_);rintro e w1 ⟨rfl,rfl⟩)
   go_region_held3 (fun w'=>w'.cell? ⟨b,0,none⟩=some (.slice (some ⟨g,0,none⟩) all.length c)∧w'.cell? ⟨b,1,none⟩=some (.int .i64 p)∧w'.cell? ⟨g,p * 3,none⟩=some (.int .i64 t.kind)∧w'.cell? ⟨g,p * 3+1,none⟩=some (.string ⟨t.text.toArray⟩)∧w'.cell? ⟨g,p * 3+2,none⟩=some (.int .i64 (t.line:Int))∧0<w'.heap.size)
    (first | go_keep | (go_split_ands;refine⟨?_,?_,?_,?_,?_,?_⟩ <;> assumption))
    (fail)
   go_wp2_with (fail);go_ret;exact⟨_,rfl,HS.out _,⟨_,rfl⟩⟩
theorem vI {b:Nat} {V:Value} {all r:List Tok} {w:World} (h:qx b V all (.ok () r) w) (k:Int) (hk3:k≠3) (hk:yn r=k) (s:ByteArray) (hs:s=⟨(hdT r).toArray⟩):
 Calls Tryz.prog 41 #[.pointer (some ⟨b,0,none⟩),.int .i64 k] w fun e w'=>e=.returned (.string s)∧qY b V all w (.ok () r.tail) w':=by
 subst hs;have ew:qP k r=.ok ⟨(hdT r).toArray⟩ r.tail:=by unfold qP;rw[if_pos hk]
 refine(text_live h k hk3).mono fun e w' hp=>?_
 rw[ew]at hp;obtain⟨v,he,hD,hv⟩:=hp;exact⟨by rw[he,show v=.string ⟨(hdT r).toArray⟩ from hv],hD⟩
theorem text_no {b:Nat} {V:Value} {all r:List Tok} {w:World} (h:qx b V all (.ok () r) w) (k:Int) (hk3:k≠3) (hk:yn r≠k):
 Calls Tryz.prog 41 #[.pointer (some ⟨b,0,none⟩),.int .i64 k] w fun e w'=>∃ s,e=.returned (.string s)∧qY b V all w (.bad r) w':=by
 have ew:qP k r=.bad r:=by unfold qP;rw[if_neg hk]
 refine(text_live h k hk3).mono fun e w' hp=>?_
 rw[ew]at hp;obtain⟨v,he,hD,a,hv⟩:=hp;exact⟨a,by rw[he,show v=.string a from hv],hD⟩
theorem yR {b:Nat} {V:Value} {all:List Tok} {x:PR Unit} {w:World} (h:qx b V all x w):
 Calls Tryz.prog 40 #[.pointer (some ⟨b,0,none⟩)] w (qF b V all w (x.bind fun _ r=>uM r) IntV):=by
 cases hv:zP uK x with
 | true=>
   obtain⟨r,rfl,hs⟩:=yc hv;have e1:uM r=.ok 1 r.tail:=by unfold uM;rw[if_pos hs]
   rw[show ((PR.ok () r).bind fun _ r=>uM r)=.ok 1 r.tail from e1];have H:=hid h;have HV:=hid hv;clear h hv hs e1;go_enter Tryz.func40,Tryz.ntmps40;go_wp2_with (go_at_call 42;(with_reducible refine(zb H.out _ HV.out).mono ?_);rintro e w1 ⟨rfl,hD⟩);go_ret;exact⟨_,rfl,hD,rfl⟩
 | false=>
   have e1:(x.bind fun _ r=>uM r)=x.bind fun _ r=>(zL kH r).bind fun _ r=>.ok 2 r:=by
    cases x with
    | ok a r=>
      show uM r=(zL kH r).bind _;unfold uM;rw[if_neg (by rw[show z6 uK r=false from hv];decide)]
    | _=>rfl
   have e2:(x.bind fun _ r=>(zL kH r).bind fun _ r=>PR.ok (2 :Int) r).un=x.bind fun _ r=>zL kH r:=by
    cases x with
    | ok a r=>show ((zL kH r).bind _).un=zL kH r;unfold zL;split <;> rfl
    | _=>rfl
   have e3:qn (x.bind fun _ r=>(zL kH r).bind fun _ r=>PR.ok (2 :Int) r) fun a=>IntV w a (.int .i64 2):=by
    cases x with
    | ok a r=>show qn ((zL kH r).bind _) _;unfold zL;split;exact rfl;exact⟨2,rfl⟩
    | bad r=>exact⟨2,rfl⟩
    | deep r=>exact⟨2,rfl⟩
    | out=>trivial
   rw[e1];have H:=hid h;have HV:=hid hv;have HE:=hid (And.intro e2 e3);clear h hv e1 e2 e3;go_enter Tryz.func40,Tryz.ntmps40
   go_wp2_with (first
    | (go_at_call 42;(with_reducible refine(take_no H.out _ HV.out).mono ?_);rintro e w1 ⟨rfl,m,rfl⟩)
    | (go_at_call 44;(with_reducible refine(zW (H.out.drewN m) _).mono ?_);rintro e w2 ⟨rfl,hD⟩))
   go_ret;refine⟨_,rfl,?_,HE.out.2⟩;rw[HE.out.1];exact hD.drewN
def mask (p:Nat→Bool) (w:World):World:={ w with heap:=w.heap.mapIdx fun i o=>if p i then .cells #[] 0 (0,0) else o }
theorem mask_at (p:Nat→Bool) (w:World) (k:Nat):(mask p w).heap[k]? =(w.heap[k]?).map fun o=>if p k then .cells #[] 0 (0,0) else o:=by simp[mask,Array.getElem?_mapIdx]
theorem uo {p:Nat→Bool} {w:World} {k:Nat} (h:p k=false):(mask p w).heap[k]? =w.heap[k]?:=by
 rw[mask_at,h];cases w.heap[k]? <;> rfl
theorem zn {p:Nat→Bool} {B:Nat} {w:World} {g o:Nat} {u:Value} (h:CellB B (mask p w) g o u):p g=false∧CellB B w g o u:=by
 cases hp:p g with
 | false=>exact⟨rfl,h.1,(World.cell?_of_block (w:=mask p w) (w':=w) (uo hp).symm).trans h.2⟩
 | true=>
   have h2:=h.2;unfold World.cell? at h2;rw[show (mask p w).heap[(⟨g,o,none⟩:Addr).block]? =(mask p w).heap[g]? from rfl,mask_at,hp]at h2;cases hg:w.heap[g]? with
   | none=>rw[hg]at h2;cases h2
   | some ob=>rw[hg]at h2;simp at h2
theorem zy {p:Nat→Bool} {B:Nat} {w:World} {g o:Nat} {u:Value} (hp:p g=false) (h:CellB B w g o u):CellB B (mask p w) g o u:=⟨h.1,(World.cell?_of_block (w:=w) (w':=mask p w) (uo hp)).trans h.2⟩
mutual
theorem RdE.imp {B B':Nat} {w w':World} (hc:∀ g o u,CellB B w g o u→CellB B' w' g o u):∀ (e:Ex) (g o:Nat),RdE B w e g o→RdE B' w' e g o
 | .mk k op n name args,g,o,h=>by
   rw[RdE]at h ⊢;obtain⟨h0,h1,h2,h3,hr,v,h4,hs⟩:=h;exact⟨hc _ _ _ h0,hc _ _ _ h1,hc _ _ _ h2,hc _ _ _ h3,hr,v,hc _ _ _ h4,xF.imp hs fun g' o'=>jM.imp hc args g' o'⟩
theorem jM.imp {B B':Nat} {w w':World} (hc:∀ g o u,CellB B w g o u→CellB B' w' g o u):∀ (l:List Ex) (g o:Nat),jM B w l g o→jM B' w' l g o
 | [],_,_,_=>by rw[jM];trivial
 | e :: r,g,o,h=>by
   rw[jM]at h ⊢;exact⟨RdE.imp hc e g o h.1,jM.imp hc r g (o+5) h.2⟩
end
mutual
theorem RdS.imp {B B':Nat} {w w':World} (hc:∀ g o u,CellB B w g o u→CellB B' w' g o u):∀ (e:St) (g o:Nat),RdS B w e g o→RdS B' w' e g o
 | .mk k ty name args thn els,g,o,h=>by
   rw[RdS]at h ⊢;obtain⟨h0,h1,h2,⟨v,h3,hs⟩,⟨v4,h4,hs4⟩,⟨v5,h5,hs5⟩⟩:=h;exact⟨hc _ _ _ h0,hc _ _ _ h1,hc _ _ _ h2,⟨v,hc _ _ _ h3,xF.imp hs fun g' o'=>jM.imp hc args g' o'⟩,⟨v4,hc _ _ _ h4,xF.imp hs4 fun g' o'=>jf.imp hc thn g' o'⟩,⟨v5,hc _ _ _ h5,xF.imp hs5 fun g' o'=>jf.imp hc els g' o'⟩⟩
theorem jf.imp {B B':Nat} {w w':World} (hc:∀ g o u,CellB B w g o u→CellB B' w' g o u):∀ (l:List St) (g o:Nat),jf B w l g o→jf B' w' l g o
 | [],_,_,_=>by rw[jf];trivial
 | e :: r,g,o,h=>by
   rw[jf]at h ⊢;exact⟨RdS.imp hc e g o h.1,jf.imp hc r g (o+6) h.2⟩
end
theorem qw.imp {B B':Nat} {w w':World} (hc:∀ g o u,CellB B w g o u→CellB B' w' g o u) {v:Value} {l:List Ex} (h:qw B w v l):qw B' w' v l:=xF.imp h fun g o=>jM.imp hc l g o
theorem SlS.imp {B B':Nat} {w w':World} (hc:∀ g o u,CellB B w g o u→CellB B' w' g o u) {v:Value} {l:List St} (h:SlS B w v l):SlS B' w' v l:=xF.imp h fun g o=>jf.imp hc l g o
theorem vx.imp {B B':Nat} {w w':World} (hc:∀ g o u,CellB B w g o u→CellB B' w' g o u) {a:Ex} {v:Value} (h:vx B w a v):vx B' w' a v:=by
 obtain⟨u,hv,hn,hs⟩:=h;exact⟨u,hv,hn,hs.imp hc⟩
def yd (L:Nat):Nat→Bool:=fun k=>decide (k<L)
theorem qG {L k:Nat}:yd L k=false↔L≤k:=by simp[yd]
def zD (L:Nat) (w w':World):Prop:=w.heap.size≤w'.heap.size∧∀ k,k<w.heap.size→L≤k→w'.heap[k]? =w.heap[k]?
theorem zD.cells {L M:Nat} {w w':World} (h:zD L w w') (hM:M≤L):∀ g o u,CellB w.heap.size (mask (yd L) w) g o u→CellB w'.heap.size (mask (yd M) w') g o u:=fun g o u hc=>by
 obtain⟨hp,hc⟩:=zn hc;have hL:=qG.1 hp;exact zy (qG.2 (by omega)) ⟨Nat.lt_of_lt_of_le hc.1 h.1,(World.cell?_of_block (w:=w) (h.2 g hc.1 hL)).trans hc.2⟩
theorem zD.refl (L:Nat) (w:World):zD L w w:=⟨Nat.le_refl _,fun _ _ _=>rfl⟩
theorem zD.trans {L:Nat} {w w' w2:World} (h:zD L w w') (g:zD L w' w2):zD L w w2:=⟨Nat.le_trans h.1 g.1,fun k hk hl=>(g.2 k (Nat.lt_of_lt_of_le hk h.1) hl).trans (h.2 k hk hl)⟩
theorem zD.of_off {b L:Nat} {w w':World} (h:OffB b w.heap.size w w') (hb:b<L):zD L w w':=⟨h.size,fun k hk hl=>h.block hk (by omega)⟩
theorem zD.of_below {L:Nat} {w w':World} (h:Below w.heap.size w w'):zD L w w':=⟨h.size,fun k hk _=>h.block k hk⟩
theorem zD.set {L g:Nat} {w:World} (hg:g<L) (i:Nat) (u:Value):zD L w (w.setCell ⟨g,i,none⟩ u):=⟨by simp[World.setCell],fun k _ hl=>Below.heap_setCell w _ u k (by show k≠g;omega)⟩
theorem zD.mono {L M:Nat} {w w':World} (h:zD L w w') (hM:L≤M):zD M w w':=⟨h.1,fun k hk hl=>h.2 k hk (by omega)⟩
def jc (L:Nat) (w:World) (a:Ex) (v:Value):Prop:=vx w.heap.size (mask (yd L) w) a v
def zU (L:Nat) (w:World) (a:List Ex) (v:Value):Prop:=qw w.heap.size (mask (yd L) w) v a
def zT (L:Nat) (w:World) (a:List St) (v:Value):Prop:=SlS w.heap.size (mask (yd L) w) v a
theorem jc.keep {L M:Nat} {w w':World} {a:Ex} {v:Value} (h:jc L w a v) (k:zD L w w') (hM:M≤L):jc M w' a v:=vx.imp (k.cells hM) h
theorem zU.keep {L M:Nat} {w w':World} {a:List Ex} {v:Value} (h:zU L w a v) (k:zD L w w') (hM:M≤L):zU M w' a v:=qw.imp (k.cells hM) h
theorem zT.keep {L M:Nat} {w w':World} {a:List St} {v:Value} (h:zT L w a v) (k:zD L w w') (hM:M≤L):zT M w' a v:=SlS.imp (k.cells hM) h
theorem jc.form {L:Nat} {w:World} {a:Ex} {v:Value} (h:jc L w a v):∃ k o n s A m c,v=.agg #[.int .i64 k,.int .i64 o,.int .i64 n,.string s,.slice A m c]:=by
 obtain⟨u,hv,_,hs⟩:=h;obtain⟨A,c,rfl,_⟩:=hs.form;exact⟨_,_,_,_,A,_,c,hv⟩
theorem zU.form {L:Nat} {w:World} {a:List Ex} {v:Value} (h:zU L w a v):∃ A c,v=.slice A a.length c∧a.length≤281474976710656:=qw.form h
theorem zT.form {L:Nat} {w:World} {a:List St} {v:Value} (h:zT L w a v):∃ A c,v=.slice A a.length c∧a.length≤281474976710656:=SlS.form h
theorem qn.imp {α:Type} {x:PR α} {P Q:α→Prop} (h:qn x P) (k:∀ a,P a→Q a):qn x Q:=by
 cases x with
 | ok a r=>exact k a h
 | bad r=>obtain⟨a,ha⟩:=h;exact⟨a,k a ha⟩
 | deep r=>obtain⟨a,ha⟩:=h;exact⟨a,k a ha⟩
 | out=>trivial
theorem qn.some {α:Type} {x:PR α} {P:α→Prop} (h:qn x P) (he:zG x):∃ a,P a:=by
 cases x with
 | ok a r=>exact⟨a,h⟩
 | bad r=>exact h
 | deep r=>exact h
 | out=>exact absurd he id
theorem qn.bind {α β:Type} {x:PR α} {f:α→List Tok→PR β} {P:α→Prop} {Q:β→Prop} (h:qn x P) (k:∀ a r,x=.ok a r→P a→qn (f a r) Q) (j:∀ a,P a→∃ c,Q c):qn (x.bind f) Q:=by
 cases x with
 | ok a r=>exact k a r rfl h
 | bad r=>obtain⟨a,ha⟩:=h;exact j a ha
 | deep r=>obtain⟨a,ha⟩:=h;exact j a ha
 | out=>trivial
theorem xe {s:List UInt8} {l:List Tok} {β:Type} {a:β} {Q:β→Prop} (h:Q a):qn ((zL s l).bind fun _ r=>.ok a r) Q:=by
 unfold zL;split
 · exact h
 · exact⟨a,h⟩
theorem qr {α β:Type} (x:PR α) (f:α→List Tok→PR β):(x.bind f).un=x.bind fun a r=>(f a r).un:=by cases x <;> rfl
theorem bind_un {α β:Type} (x:PR α) (f:List Tok→PR β):x.un.bind (fun _ r=>f r)=x.bind fun _ r=>f r:=by cases x <;> rfl
theorem zR {α β γ:Type} (x:PR α) (f:α→List Tok→PR β) (g:β→List Tok→PR γ):(x.bind f).bind g=x.bind fun a r=>(f a r).bind g:=by cases x <;> rfl
theorem un_unit (x:PR Unit):x.un=x:=by cases x <;> rfl
theorem jz {β:Type} (s:List UInt8) (l:List Tok) (a:β):((zL s l).bind fun _ r=>PR.ok a r).un=zL s l:=by unfold zL;split <;> rfl
theorem zo {α β:Type} {x:PR α} {f:α→List Tok→PR β} (h:zG (x.bind f)):zG x:=by cases x <;> first | trivial | exact h
theorem qS {L:Nat} {w:World} {x:PR Ex} {v:Value} (h:qn x fun a=>jc L w a v) (he:zG x):∃ k o n s A m c,v=.agg #[.int .i64 k,.int .i64 o,.int .i64 n,.string s,.slice A m c]:=by
 obtain⟨a,ha⟩:=h.some he;exact ha.form
theorem got_forms {L:Nat} {w:World} {x:PR (List Ex)} {v:Value} (h:qn x fun a=>zU L w a v) (he:zG x):∃ A m c,v=.slice A m c:=by
 obtain⟨a,ha⟩:=h.some he;obtain⟨A,c,hv,_⟩:=ha.form;exact⟨A,_,c,hv⟩
theorem zS.num {b:Nat} {V:Value} {all r:List Tok} {bd dp:Bool} {w:World} (h:zS b V all r bd dp w) (hk:yn r=0):(⟨(hdT r).toArray⟩:ByteArray).size≤281474976710656∧jm (hdT r)=true∧jd 0 (hdT r)<9223372036854775808:=by
 obtain⟨_,⟨g,c,_,_,_,_,_,hn⟩,hs,he⟩:=h;obtain⟨t,q,rfl⟩:=List.exists_cons_of_ne_nil he.ne;have ht:t ∈ all:=hs.subset (List.mem_cons_self ..);obtain⟨h1,h2⟩:=hn t ht hk;refine⟨h2,h1,?_⟩;have:=h1;simp only[jm,Bool.and_eq_true,decide_eq_true_eq]at this;exact this.2
theorem qx.tok {b:Nat} {V:Value} {all:List Tok} {x:PR Unit} {w:World} (h:qx b V all x w):vy b V all w:=by
 obtain⟨r,bd,dp,hp,_⟩:=h.box;exact hp.2.1
theorem qx.move {b:Nat} {V:Value} {all:List Tok} {x:PR Unit} {w w3 W:World} (h:qx b V all x w3) (ht:vy b V all w) (ho:OffB b w.heap.size w W) (hb:W.heap[b]? =w3.heap[b]?):qx b V all x W:=by
 have hp:∀ {r bd dp},zS b V all r bd dp w3→zS b V all r bd dp W:=fun hp=>⟨hb.trans hp.1,ht.off ho,hp.2.2⟩
 cases x with
 | ok a r=>exact hp h
 | bad r=>exact hp h
 | deep r=>exact hp h
 | out=>exact h
theorem qY.after {b:Nat} {V:Value} {all:List Tok} {x y:PR Unit} {w w1 w2:World} (h:qY b V all w x w1) (g:qY b V all w1 y w2):qY b V all w y w2:=⟨g.1,h.2.trans (g.2.mono h.2.size)⟩
theorem qY.below {b:Nat} {V:Value} {all:List Tok} {x:PR Unit} {w w1 w2:World} (h:qY b V all w x w1) (g:Below w1.heap.size w1 w2):qY b V all w x w2:=⟨h.1.below g,h.2.trans ((OffB.of_below g h.1.lt).mono h.2.size)⟩
theorem qY.alloc {b:Nat} {V:Value} {all:List Tok} {x:PR Unit} {w w1:World} (h:qY b V all w x w1) (o:Obj):qY b V all w x (w1.alloc o):=h.below (Zb.alloc Zr o)
theorem qY.set {b g:Nat} {V:Value} {all:List Tok} {x:PR Unit} {w w1:World} (h:qY b V all w x w1) (ht:vy b V all w) (hg:w.heap.size≤g) (hb:g≠b) (i:Nat) (u:Value):qY b V all w x (w1.setCell ⟨g,i,none⟩ u):=by
 have ho:OffB b w.heap.size w (w1.setCell ⟨g,i,none⟩ u):=h.2.setCell h.1.lt hg i u;exact⟨h.1.move ht ho (Below.heap_setCell w1 _ u b (by show b≠g;omega)),ho⟩
theorem qY.writ {b g:Nat} {V:Value} {all:List Tok} {x:PR Unit} {w w1:World} (h:qY b V all w x w1) (ht:vy b V all w) (hg:w.heap.size≤g) (hb:g≠b) (c0 c1 c2 c3 c4:Value):qY b V all w x (writ w1 g c0 c1 c2 c3 c4):=
 ((((h.set ht hg hb 0 c0).set ht hg hb 1 c1).set ht hg hb 2 c2).set ht hg hb 3 c3).set ht hg hb 4 c4
theorem zD.writ {L g:Nat} {w:World} (hg:g<L) (c0 c1 c2 c3 c4:Value):zD L w (writ w g c0 c1 c2 c3 c4):=
 ((((zD.set hg 0 c0).trans (zD.set hg 1 c1)).trans (zD.set hg 2 c2)).trans (zD.set hg 3 c3)).trans (zD.set hg 4 c4)
theorem off_own {b B k:Nat} {w w':World} (h:OffB b B w w') (hk:k<B) (hb:k≠b):(∀ o,w'.cell? ⟨k,o,none⟩=w.cell? ⟨k,o,none⟩)∧∀ o,w'.frozen? ⟨k,o,none⟩=w.frozen? ⟨k,o,none⟩:=
 ⟨fun _=>h.cell hk hb,fun _=>World.frozen?_of_block (w:=w) (h.block hk hb)⟩
abbrev xI:Obj:=.cells #[.int .i64 0,.int .i64 0,.int .i64 0,.string ⟨#[]⟩,.slice none 0 0] 116
def ex0:Ex:=.mk 0 0 0 bE []
abbrev ex0V:Value:=.agg #[.int .i64 0,.int .i64 0,.int .i64 0,.string ⟨#[]⟩,.slice none 0 0]
theorem uO (L:Nat) (w:World):jc L w ex0 ex0V:=⟨_,rfl,by constructor <;> decide,xq _ _⟩
theorem five {W:World} {g:Nat} {d0 d1 d2 d3 d4:Value} {T:TypeId} {fr:Nat × Nat} (h:W.heap[g]? =some (.cells #[d0,d1,d2,d3,d4] T fr)) (c0 c1 c2 c3 c4:Value):
 (((((W.setCell ⟨g,0,none⟩ c0).setCell ⟨g,1,none⟩ c1).setCell ⟨g,2,none⟩ c2).setCell ⟨g,3,none⟩ c3).setCell ⟨g,4,none⟩ c4).cell? ⟨g,0,none⟩=some c0∧
 (((((W.setCell ⟨g,0,none⟩ c0).setCell ⟨g,1,none⟩ c1).setCell ⟨g,2,none⟩ c2).setCell ⟨g,3,none⟩ c3).setCell ⟨g,4,none⟩ c4).cell? ⟨g,1,none⟩=some c1∧
 (((((W.setCell ⟨g,0,none⟩ c0).setCell ⟨g,1,none⟩ c1).setCell ⟨g,2,none⟩ c2).setCell ⟨g,3,none⟩ c3).setCell ⟨g,4,none⟩ c4).cell? ⟨g,2,none⟩=some c2∧
 (((((W.setCell ⟨g,0,none⟩ c0).setCell ⟨g,1,none⟩ c1).setCell ⟨g,2,none⟩ c2).setCell ⟨g,3,none⟩ c3).setCell ⟨g,4,none⟩ c4).cell? ⟨g,3,none⟩=some c3∧
 (((((W.setCell ⟨g,0,none⟩ c0).setCell ⟨g,1,none⟩ c1).setCell ⟨g,2,none⟩ c2).setCell ⟨g,3,none⟩ c3).setCell ⟨g,4,none⟩ c4).cell? ⟨g,4,none⟩=some c4:=by
 have h2:=uf h c0 c1 c2 c3 c4;exact⟨(Lib.cell_of_heap h2 0).trans rfl,(Lib.cell_of_heap h2 1).trans rfl,(Lib.cell_of_heap h2 2).trans rfl,(Lib.cell_of_heap h2 3).trans rfl,(Lib.cell_of_heap h2 4).trans rfl⟩
theorem qW {b B k:Nat} {w w':World} {o:Obj} (h:OffB b B w w') (hk:k<B) (hb:k≠b) (hw:w.heap[k]? =some o):w'.heap[k]? =some o:=(h.block hk hb).trans hw
theorem zc {k:Nat} {w:World} {o:Obj} (hw:w.heap[k]? =some o) (o':Obj):(w.alloc o').heap[k]? =some o:=(Below.heap_alloc w o' k (Array.getElem?_eq_some_iff.1 hw).1).trans hw
def CE (b:Nat) (V:Value) (all:List Tok) (n:Nat) (lev d:Int):Prop:=∀ (w:World) (x:PR Unit),qx b V all x w→zG (x.bind fun _ r=>pE n lev d r)→
 Calls Tryz.prog 97 #[.pointer (some ⟨b,0,none⟩),.int .i64 lev,.int .i64 d] w (qF b V all w (x.bind fun _ r=>pE n lev d r) (jc w.heap.size))
theorem CE.call {b:Nat} {V:Value} {all:List Tok} {n:Nat} {lev d:Int} (h:CE b V all n lev d) {w:World} {x:PR Unit} (hs:qx b V all x w) (he:zG (x.bind fun _ r=>pE n lev d r)):
 Calls Tryz.prog 97 #[.pointer (some ⟨b,0,none⟩),.int .i64 lev,.int .i64 d] w (qF b V all w (x.bind fun _ r=>pE n lev d r) (jc w.heap.size)):=h w x hs he
def CA (b:Nat) (V:Value) (all:List Tok) (n:Nat) (d:Int):Prop:=∀ (w:World) (x:PR Unit),qx b V all x w→zG (x.bind fun _ r=>pA n d r)→
 Calls Tryz.prog 113 #[.pointer (some ⟨b,0,none⟩),.int .i64 d] w (qF b V all w (x.bind fun _ r=>pA n d r) (zU w.heap.size))
theorem CA.call {b:Nat} {V:Value} {all:List Tok} {n:Nat} {d:Int} (h:CA b V all n d) {w:World} {x:PR Unit} (hs:qx b V all x w) (he:zG (x.bind fun _ r=>pA n d r)):
 Calls Tryz.prog 113 #[.pointer (some ⟨b,0,none⟩),.int .i64 d] w (qF b V all w (x.bind fun _ r=>pA n d r) (zU w.heap.size)):=h w x hs he
def jS (b:Nat) (V:Value) (all:List Tok) (w:World) (x:PR Unit) (W:World):Prop:=qY b V all w x W∧W.heap[w.heap.size]? =some xI∧vy b V all w∧b<w.heap.size
section
variable {b:Nat} {V:Value} {all:List Tok} {w W W':World} {x y:PR Unit}
theorem jS.start (h:qx b V all x w):jS b V all w x (w.alloc xI):=
 ⟨⟨h.below (Zb.alloc Zr _),OffB.of_below (Zb.alloc Zr _) h.lt⟩,heap_alloc_new w xI,h.tok,h.lt⟩
theorem jS.did (h:jS b V all w x W):qY b V all w x W:=h.1
theorem jS.st (h:jS b V all w x W):qx b V all x W:=h.1.1
theorem jS.size (h:jS b V all w x W):w.heap.size<W.heap.size:=(Array.getElem?_eq_some_iff.1 h.2.1).1
theorem jS.ne (h:jS b V all w x W):w.heap.size≠b:=by have:=h.2.2.2;omega
theorem jS.step (h:jS b V all w x W) (g:qY b V all W y W'):jS b V all w y W':=⟨h.1.after g,qW g.off h.size h.ne h.2.1,h.2.2⟩
theorem jS.alloc (h:jS b V all w x W) (o:Obj):jS b V all w x (W.alloc o):=⟨h.1.alloc o,zc h.2.1 o,h.2.2⟩
theorem jS.drewN (h:jS b V all w x W) (n:Nat):jS b V all w x (W.drewN n):=h.step ⟨h.st.drewN n,(OffB.refl b _ W).drewN n⟩
theorem jS.own (h:jS b V all w x W):(W.cell? ⟨w.heap.size,0,none⟩=some (.int .i64 0)∧W.cell? ⟨w.heap.size,1,none⟩=some (.int .i64 0)∧W.cell? ⟨w.heap.size,2,none⟩=some (.int .i64 0)∧
 W.cell? ⟨w.heap.size,3,none⟩=some (.string ⟨#[]⟩)∧W.cell? ⟨w.heap.size,4,none⟩=some (.slice none 0 0))∧∀ o,W.frozen? ⟨w.heap.size,o,none⟩=false:=by
 have h2:=h.2.1;refine⟨⟨(Lib.cell_of_heap h2 0).trans rfl,(Lib.cell_of_heap h2 1).trans rfl,(Lib.cell_of_heap h2 2).trans rfl,(Lib.cell_of_heap h2 3).trans rfl,(Lib.cell_of_heap h2 4).trans rfl⟩,fun o=>?_⟩;simp[World.frozen?,h2]
theorem jS.read (h:jS b V all w x W) (c0 c1 c2 c3 c4:Value):(((((W.setCell ⟨w.heap.size,0,none⟩ c0).setCell ⟨w.heap.size,1,none⟩ c1).setCell ⟨w.heap.size,2,none⟩ c2).setCell ⟨w.heap.size,3,none⟩ c3).setCell ⟨w.heap.size,4,none⟩ c4).cell? ⟨w.heap.size,0,none⟩=some c0∧(((((W.setCell ⟨w.heap.size,0,none⟩ c0).setCell ⟨w.heap.size,1,none⟩ c1).setCell ⟨w.heap.size,2,none⟩ c2).setCell ⟨w.heap.size,3,none⟩ c3).setCell ⟨w.heap.size,4,none⟩ c4).cell? ⟨w.heap.size,1,none⟩=some c1∧(((((W.setCell ⟨w.heap.size,0,none⟩ c0).setCell ⟨w.heap.size,1,none⟩ c1).setCell ⟨w.heap.size,2,none⟩ c2).setCell ⟨w.heap.size,3,none⟩ c3).setCell ⟨w.heap.size,4,none⟩ c4).cell? ⟨w.heap.size,2,none⟩=some c2∧(((((W.setCell ⟨w.heap.size,0,none⟩ c0).setCell ⟨w.heap.size,1,none⟩ c1).setCell ⟨w.heap.size,2,none⟩ c2).setCell ⟨w.heap.size,3,none⟩ c3).setCell ⟨w.heap.size,4,none⟩ c4).cell? ⟨w.heap.size,3,none⟩=some c3∧(((((W.setCell ⟨w.heap.size,0,none⟩ c0).setCell ⟨w.heap.size,1,none⟩ c1).setCell ⟨w.heap.size,2,none⟩ c2).setCell ⟨w.heap.size,3,none⟩ c3).setCell ⟨w.heap.size,4,none⟩ c4).cell? ⟨w.heap.size,4,none⟩=some c4:=five h.2.1 c0 c1 c2 c3 c4
theorem jS.fin (h:jS b V all w y W) {X:PR Ex} (hy:X.un=y) {c0 c1 c2 c3 c4:Value} (hG:qn X fun a=>jc w.heap.size (writ W w.heap.size c0 c1 c2 c3 c4) a (.agg #[c0,c1,c2,c3,c4])):
 qF b V all w X (jc w.heap.size) (.returned (.agg #[c0,c1,c2,c3,c4])) (writ W w.heap.size c0 c1 c2 c3 c4):=
 ⟨_,rfl,hy ▸ h.1.writ h.2.2.1 Zr h.ne _ _ _ _ _,hG⟩
theorem jc.writ {L:Nat} {a:Ex} {v:Value} (h:jc L W a v) (hL:w.heap.size<L) (c0 c1 c2 c3 c4:Value):jc w.heap.size (writ W w.heap.size c0 c1 c2 c3 c4) a v:=h.keep (zD.writ hL _ _ _ _ _) (by omega)
theorem zU.writ {L:Nat} {a:List Ex} {v:Value} (h:zU L W a v) (hL:w.heap.size<L) (c0 c1 c2 c3 c4:Value):zU w.heap.size (writ W w.heap.size c0 c1 c2 c3 c4) a v:=h.keep (zD.writ hL _ _ _ _ _) (by omega)
theorem zD.did {L:Nat} (h:qY b V all W x W') (hb:b<L):zD L W W':=zD.of_off h.off hb
theorem ye (L:Nat) (W:World) (k o n:Int) (s:ByteArray) (hn:vw n):jc L W (.mk k o n s []) (.agg #[.int .i64 k,.int .i64 o,.int .i64 n,.string s,.slice none 0 0]):=⟨_,rfl,hn,xq _ _⟩
theorem jS.reada (h:jS b V all w x W) (o:Obj) (c0 c1 c2 c3 c4:Value):((((((W.setCell ⟨w.heap.size,0,none⟩ c0).setCell ⟨w.heap.size,1,none⟩ c1).setCell ⟨w.heap.size,2,none⟩ c2).setCell ⟨w.heap.size,3,none⟩ c3).setCell ⟨w.heap.size,4,none⟩ c4).alloc o).cell? ⟨w.heap.size,0,none⟩=some c0∧((((((W.setCell ⟨w.heap.size,0,none⟩ c0).setCell ⟨w.heap.size,1,none⟩ c1).setCell ⟨w.heap.size,2,none⟩ c2).setCell ⟨w.heap.size,3,none⟩ c3).setCell ⟨w.heap.size,4,none⟩ c4).alloc o).cell? ⟨w.heap.size,1,none⟩=some c1∧((((((W.setCell ⟨w.heap.size,0,none⟩ c0).setCell ⟨w.heap.size,1,none⟩ c1).setCell ⟨w.heap.size,2,none⟩ c2).setCell ⟨w.heap.size,3,none⟩ c3).setCell ⟨w.heap.size,4,none⟩ c4).alloc o).cell? ⟨w.heap.size,2,none⟩=some c2∧((((((W.setCell ⟨w.heap.size,0,none⟩ c0).setCell ⟨w.heap.size,1,none⟩ c1).setCell ⟨w.heap.size,2,none⟩ c2).setCell ⟨w.heap.size,3,none⟩ c3).setCell ⟨w.heap.size,4,none⟩ c4).alloc o).cell? ⟨w.heap.size,3,none⟩=some c3∧((((((W.setCell ⟨w.heap.size,0,none⟩ c0).setCell ⟨w.heap.size,1,none⟩ c1).setCell ⟨w.heap.size,2,none⟩ c2).setCell ⟨w.heap.size,3,none⟩ c3).setCell ⟨w.heap.size,4,none⟩ c4).alloc o).cell? ⟨w.heap.size,4,none⟩=some c4:=by
 have h2:=zc (uf h.2.1 c0 c1 c2 c3 c4) o;exact⟨(Lib.cell_of_heap h2 0).trans rfl,(Lib.cell_of_heap h2 1).trans rfl,(Lib.cell_of_heap h2 2).trans rfl,(Lib.cell_of_heap h2 3).trans rfl,(Lib.cell_of_heap h2 4).trans rfl⟩
theorem jS.fina (h:jS b V all w y W) {X:PR Ex} (hy:X.un=y) {o:Obj} {c0 c1 c2 c3 c4:Value} (hG:qn X fun a=>jc w.heap.size ((_root_.Go.Proofs.YtfghofifjnbicaaGreatDoor.writ W w.heap.size c0 c1 c2 c3 c4).alloc o) a (.agg #[c0,c1,c2,c3,c4])):
 qF b V all w X (jc w.heap.size) (.returned (.agg #[c0,c1,c2,c3,c4])) ((_root_.Go.Proofs.YtfghofifjnbicaaGreatDoor.writ W w.heap.size c0 c1 c2 c3 c4).alloc o):=
 ⟨_,rfl,hy ▸ (h.1.writ h.2.2.1 Zr h.ne _ _ _ _ _).alloc o,hG⟩
theorem exV_at {B:Nat} {w:World} {e:Ex} {k op n:Int} {s:ByteArray} {u:Value} (h:vx B w e (.agg #[.int .i64 k,.int .i64 op,.int .i64 n,.string s,u])):∃ args,e=.mk k op n s args∧vw n∧qw B w u args:=by
 obtain⟨u',hv,hn,hs⟩:=h;obtain⟨k',op',n',s',args⟩:=e;simp only[Value.agg.injEq,Array.mk.injEq,List.cons.injEq,Value.int.injEq,Value.string.injEq,true_and,and_true,Ex.kind,Ex.op,Ex.n,Ex.name]at hv;obtain⟨rfl,rfl,rfl,rfl,rfl⟩:=hv;exact⟨args,rfl,hn,hs⟩
theorem yF {L M g:Nat} {e:Ex} {k op n:Int} {s:ByteArray} {u:Value} {T:TypeId} (h:jc L W e (.agg #[.int .i64 k,.int .i64 op,.int .i64 n,.string s,u])) (hM:M≤L) (hW:M≤W.heap.size) (hg:g=W.heap.size):
 zU M (W.alloc (.cells #[.int .i64 k,.int .i64 op,.int .i64 n,.string s,u] T)) [e] (.slice (some ⟨g,0,none⟩) 1 1):=by
 subst hg;have h':=h.keep (zD.of_below (Zb.alloc Zr (.cells #[.int .i64 k,.int .i64 op,.int .i64 n,.string s,u] T))) hM;obtain⟨args,rfl,hn,hs⟩:=exV_at h';exact slE_at1 (w:=mask (yd M) _) (b:=W.heap.size) ((uo (qG.2 hW)).trans (heap_alloc_new W _)) (by simp) hn hs
end
end Go.Proofs.YtfghofifjnbicaaGreatDoor
