import Derived.Test.YtfghofifjnbicaaGreatDoorAhZed
import Derived.Test.YtfghofifjnbicaaGreatDoorAhParNm
set_option linter.unusedSimpArgs false
set_option linter.unusedVariables false
set_option maxRecDepth 100000
/- The document's parser: statements. (By tools/gen_parst.py.) -/
namespace Go.Proofs.YtfghofifjnbicaaGreatDoor
open Lib (hid)
open Go.RowKit
def q9 {α β γ:Type} (A:PR α) (k:List Tok→PR β) (F:α→β→γ):PR γ:=A.bind fun a r=>(k r).bind fun b r=>.ok (F a b) r
theorem qp {α β γ:Type} (A:PR α) (k:List Tok→PR β) (F:α→β→γ):(q9 A k F).un=(A.un.bind fun _ r=>k r).un:=by
 cases A with
 | ok a r=>
   show ((k r).bind fun b r=>PR.ok (F a b) r).un=(k r).un;rw[qr];rfl
 | _=>rfl
theorem qU {α β γ:Type} {A:PR α} {k:List Tok→PR β} {F:α→β→γ} {P1:α→Prop} {P2:β→Prop} {Q:γ→Prop} (h1:qn A P1) (h2:qn (A.un.bind fun _ r=>k r) P2) (he:zG (A.un.bind fun _ r=>k r)) (hq:∀ a b,P1 a→P2 b→Q (F a b)):qn (q9 A k F) Q:=by
 obtain⟨b0,hb0⟩:=h2.some he;cases A with
 | ok a r=>
   have h3:qn ((k r).bind fun b r=>PR.ok (F a b) r) Q:=qn.bind (show qn (k r) P2 from h2) (fun b r _ hb=>hq a b h1 hb) fun b hb=>⟨_,hq a b h1 hb⟩
   exact h3
 | bad r=>obtain⟨a,ha⟩:=h1;exact⟨_,hq a b0 ha hb0⟩
 | deep r=>obtain⟨a,ha⟩:=h1;exact⟨_,hq a b0 ha hb0⟩
 | out=>trivial
theorem qA {α β γ:Type} {A:PR α} {k:List Tok→PR β} {F:α→β→γ} (h:zG (q9 A k F)):zG (A.un.bind fun _ r=>k r):=by
 cases A with
 | ok a r=>exact zo (show zG ((k r).bind fun b r=>PR.ok (F a b) r) from h)
 | bad r=>trivial
 | deep r=>trivial
 | out=>exact h
theorem zp {α β γ:Type} {A:PR α} {k:List Tok→PR β} {F:α→β→γ} (h:zG (q9 A k F)):zG A:=zo h
theorem jJ {α γ:Type} (A:PR α) (t:List UInt8) (F:α→Unit→γ):(q9 A (fun r=>zL t r) F).un=A.un.bind fun _ r=>zL t r:=by rw[qp,un_unit]
theorem uw {L:Nat} {w:World} {x:PR Ex} {v:Value} (h:qn x fun a=>OneF L w a v) (he:zG x):∃ A m c,v=.slice A m c:=by
 obtain⟨a,ha⟩:=h.some he;obtain⟨A,c,hv,_⟩:=zU.form ha;exact⟨A,_,c,hv⟩
theorem int_form {w:World} {x:PR Int} {v:Value} (h:qn x fun a=>IntV w a v) (he:zG x):∃ t,v=.int .i64 t:=by
 obtain⟨a,ha⟩:=h.some he;exact⟨a,ha⟩
theorem ux {α β:Type} (a:α) (r:List Tok) (f:α→List Tok→PR β):(PR.ok a r).bind f=f a r:=rfl
theorem xj {x:PR Unit} {s:List UInt8} (_h:zG (x.bind fun _ r=>zL s r)):qn (x.bind fun _ r=>zL s r) fun _=>True:=by
 cases hx:(x.bind fun _ r=>zL s r) with
 | ok a r=>trivial
 | bad r=>exact⟨(),trivial⟩
 | deep r=>exact⟨(),trivial⟩
 | out=>trivial
def CB (b:Nat) (V:Value) (all:List Tok) (n:Nat) (d:Int):Prop:=∀ (w:World) (x:PR Unit),qx b V all x w→zG (x.bind fun _ r=>pB n d r)→
 Calls Tryz.prog 68 #[.pointer (some ⟨b,0,none⟩),.int .i64 d] w (qF b V all w (x.bind fun _ r=>pB n d r) (zT w.heap.size))
theorem CB.call {b:Nat} {V:Value} {all:List Tok} {n:Nat} {d:Int} (h:CB b V all n d) {w:World} {x:PR Unit} (hs:qx b V all x w) (he:zG (x.bind fun _ r=>pB n d r)):
 Calls Tryz.prog 68 #[.pointer (some ⟨b,0,none⟩),.int .i64 d] w (qF b V all w (x.bind fun _ r=>pB n d r) (zT w.heap.size)):=h w x hs he
def kC (b:Nat) (V:Value) (all:List Tok) (w:World) (x:PR Unit) (W:World) (c0 c1 c2 c3 c4 c5:Value):Prop:=jF b V all w x W∧W.heap[w.heap.size+1]? =some (.cells #[c0,c1,c2,c3,c4,c5] 88 (0,0))
section
variable {b:Nat} {V:Value} {all:List Tok} {w W W':World} {x y:PR Unit} {c0 c1 c2 c3 c4 c5:Value}
theorem kC.start (h:qx b V all x w):kC b V all w x ((w.alloc yT).alloc yT) (.int .i64 0) (.int .i64 0) (.string ⟨#[]⟩) (.slice none 0 0) (.slice none 0 0) (.slice none 0 0):=
 ⟨(jF.start h).alloc yT,by have:=heap_alloc_new (w.alloc yT) yT;rw[zA]at this;exact this⟩
theorem kC.st (h:kC b V all w x W c0 c1 c2 c3 c4 c5):qx b V all x W:=h.1.st
theorem kC.size (h:kC b V all w x W c0 c1 c2 c3 c4 c5):w.heap.size+1<W.heap.size:=(Array.getElem?_eq_some_iff.1 h.2).1
theorem kC.ne (h:kC b V all w x W c0 c1 c2 c3 c4 c5):w.heap.size+1≠b:=by have:=h.1.lt;omega
theorem kC.step (h:kC b V all w x W c0 c1 c2 c3 c4 c5) (g:qY b V all W y W'):kC b V all w y W' c0 c1 c2 c3 c4 c5:=⟨h.1.step g,qW g.off h.size h.ne h.2⟩
theorem kC.alloc (h:kC b V all w x W c0 c1 c2 c3 c4 c5) (o:Obj):kC b V all w x (W.alloc o) c0 c1 c2 c3 c4 c5:=⟨h.1.alloc o,zc h.2 o⟩
theorem kC.own (h:kC b V all w x W c0 c1 c2 c3 c4 c5):(W.cell? ⟨w.heap.size,0,none⟩=some (.int .i64 0)∧W.cell? ⟨w.heap.size,1,none⟩=some (.int .i64 0)∧W.cell? ⟨w.heap.size,2,none⟩=some (.string ⟨#[]⟩)∧
 W.cell? ⟨w.heap.size,3,none⟩=some (.slice none 0 0)∧W.cell? ⟨w.heap.size,4,none⟩=some (.slice none 0 0)∧W.cell? ⟨w.heap.size,5,none⟩=some (.slice none 0 0))∧∀ o,W.frozen? ⟨w.heap.size,o,none⟩=false:=h.1.own
theorem kC.s (h:kC b V all w x W c0 c1 c2 c3 c4 c5):(W.cell? ⟨w.heap.size+1,0,none⟩=some c0∧W.cell? ⟨w.heap.size+1,1,none⟩=some c1∧W.cell? ⟨w.heap.size+1,2,none⟩=some c2∧W.cell? ⟨w.heap.size+1,3,none⟩=some c3∧W.cell? ⟨w.heap.size+1,4,none⟩=some c4∧W.cell? ⟨w.heap.size+1,5,none⟩=some c5)∧∀ o,W.frozen? ⟨w.heap.size+1,o,none⟩=false:=zO h.2
theorem kC.set0 (h:kC b V all w x W c0 c1 c2 c3 c4 c5) (u:Value):kC b V all w x (W.setCell ⟨w.heap.size+1,0,none⟩ u) u c1 c2 c3 c4 c5:=⟨h.1.set (by omega) 0 u,Lib.heap_setCell_same h.2 u⟩
theorem kC.set1 (h:kC b V all w x W c0 c1 c2 c3 c4 c5) (u:Value):kC b V all w x (W.setCell ⟨w.heap.size+1,1,none⟩ u) c0 u c2 c3 c4 c5:=⟨h.1.set (by omega) 1 u,Lib.heap_setCell_same h.2 u⟩
theorem kC.set2 (h:kC b V all w x W c0 c1 c2 c3 c4 c5) (u:Value):kC b V all w x (W.setCell ⟨w.heap.size+1,2,none⟩ u) c0 c1 u c3 c4 c5:=⟨h.1.set (by omega) 2 u,Lib.heap_setCell_same h.2 u⟩
theorem kC.set3 (h:kC b V all w x W c0 c1 c2 c3 c4 c5) (u:Value):kC b V all w x (W.setCell ⟨w.heap.size+1,3,none⟩ u) c0 c1 c2 u c4 c5:=⟨h.1.set (by omega) 3 u,Lib.heap_setCell_same h.2 u⟩
theorem kC.set4 (h:kC b V all w x W c0 c1 c2 c3 c4 c5) (u:Value):kC b V all w x (W.setCell ⟨w.heap.size+1,4,none⟩ u) c0 c1 c2 c3 u c5:=⟨h.1.set (by omega) 4 u,Lib.heap_setCell_same h.2 u⟩
theorem kC.set5 (h:kC b V all w x W c0 c1 c2 c3 c4 c5) (u:Value):kC b V all w x (W.setCell ⟨w.heap.size+1,5,none⟩ u) c0 c1 c2 c3 c4 u:=⟨h.1.set (by omega) 5 u,Lib.heap_setCell_same h.2 u⟩
theorem kC.fin (h:kC b V all w y W c0 c1 c2 c3 c4 c5) {X:PR St} (hy:X.un=y) (hG:qn X fun a=>yI w.heap.size (yo W w.heap.size c0 c1 c2 c3 c4 c5) a (.agg #[c0,c1,c2,c3,c4,c5])):
 qF b V all w X (yI w.heap.size) (.returned (.agg #[c0,c1,c2,c3,c4,c5])) (yo W w.heap.size c0 c1 c2 c3 c4 c5):=h.1.fin hy hG
end
theorem pstmt_break {b:Nat} {V:Value} {all r:List Tok} {w:World} {n:Nat} {d:Int} (h:zS b V all r false false w) (hd:0≤d∧d≤100) (hint:z6 uK r=false) (hbool:z6 kH r=false) (hif:z6 sIf r=false) (hwhile:z6 vB r=false) (hbreak:z6 uL r=true) (hn:zG (pS (n+1) d r)):
 Calls Tryz.prog 84 #[.pointer (some ⟨b,0,none⟩),.int .i64 d] w (qF b V all w (pS (n+1) d r) (yI w.heap.size)):=by
 obtain⟨hd0,hd1⟩:=hd;have HC:=hid (kC.start (x:=.ok () r) h);have hbw:=h.lt;have hdd:¬ 100<d:=by omega
 have ex:pS (n+1) d r=q9 (PR.ok (St.mk 6 0 bE [] [] []) r.tail) (fun r=>zL [59] r) fun a _=>a:=by rw[pS,if_neg (by omega),if_neg (by rw[hint,hbool];decide),if_neg (by rw[hif];decide),if_neg (by rw[hwhile];decide),if_pos hbreak];rfl
 rw[ex]at hn ⊢;have N0:=hid (show zP (⟨#[105,110,116]⟩:ByteArray).data.toList (PR.ok () r)=false from hint);have N1:=hid (show zP (⟨#[98,111,111,108]⟩:ByteArray).data.toList (PR.ok () r)=false from hbool);have N2:=hid (show zP (⟨#[105,102]⟩:ByteArray).data.toList (PR.ok () r)=false from hif);have N3:=hid (show zP (⟨#[119,104,105,108,101]⟩:ByteArray).data.toList (PR.ok () r)=false from hwhile);have Y0:=hid (show zP (⟨#[98,114,101,97,107]⟩:ByteArray).data.toList (PR.ok () r)=true from hbreak);have HN:=hid (qA hn);clear h hn ex hint hbool hif hwhile hbreak;go_enter Tryz.func84,Tryz.ntmps84
 go_wp2_with (first
  | (go_at_call 67;(with_reducible refine(qo HC.out.st _ false N0.out).mono ?_);rintro e w1 ⟨rfl,hD⟩;replace HC:=hid (HC.out.step hD);clear hD)
  | (go_at_call 67;(with_reducible refine(qo HC.out.st _ false N1.out).mono ?_);rintro e w1 ⟨rfl,hD⟩;replace HC:=hid (HC.out.step hD);clear hD)
  | (go_at_call 42;(with_reducible refine(zF HC.out.st _ N2.out).mono ?_);rintro e w1 ⟨rfl,hD⟩
     replace HC:=hid (HC.out.step hD);clear hD;obtain⟨⟨c0,c1,c2,c3,c4,c5⟩,fz⟩:=HC.out.own
     obtain⟨⟨s0,s1,s2,s3,s4,s5⟩,sz⟩:=HC.out.s)
  | (go_at_call 42;(with_reducible refine(zF HC.out.st _ N3.out).mono ?_);rintro e w1 ⟨rfl,hD⟩
     replace HC:=hid (HC.out.step hD);clear hD;obtain⟨⟨c0,c1,c2,c3,c4,c5⟩,fz⟩:=HC.out.own
     obtain⟨⟨s0,s1,s2,s3,s4,s5⟩,sz⟩:=HC.out.s)
  | (go_at_call 42;(with_reducible refine(zb HC.out.st _ Y0.out).mono ?_);rintro e w1 ⟨rfl,hD⟩
     replace HC:=hid (show kC b V all w (.ok () r.tail) w1 _ _ _ _ _ _ from HC.out.step hD);clear hD;obtain⟨⟨c0,c1,c2,c3,c4,c5⟩,fz⟩:=HC.out.own
     obtain⟨⟨s0,s1,s2,s3,s4,s5⟩,sz⟩:=HC.out.s)
  | (go_at_call 44;(with_reducible refine(zW (HC.out.set0 (.int .i64 6)).st ⟨#[59]⟩).mono ?_);rintro e w9 ⟨rfl,hD⟩
     replace HC:=hid ((HC.out.set0 (.int .i64 6)).step hD);have hz9:=HC.out.size;clear hD;obtain⟨⟨c0,c1,c2,c3,c4,c5⟩,fz⟩:=HC.out.own
     obtain⟨⟨s0,s1,s2,s3,s4,s5⟩,sz⟩:=HC.out.s))
 obtain⟨f0,f1,f2,f3,f4,f5⟩:=HC.out.1.read (.int .i64 6) (.int .i64 0) (.string ⟨#[]⟩) (.slice none 0 0) (.slice none 0 0) (.slice none 0 0);refine bodyPost_ret (v:=.agg #[.int .i64 6,.int .i64 0,.string ⟨#[]⟩,.slice none 0 0,.slice none 0 0,.slice none 0 0]) (by simp[results,Tryz.results84,go_sem,f0,f1,f2,f3,f4,f5]) rfl ?_;refine HC.out.fin (jJ _ _ _) ?_;exact qU (P1:=fun a=>a=St.mk 6 0 bE [] [] []) rfl (xj (x:=.ok () r.tail) HN.out) HN.out fun a _ ha _=>by subst ha;exact⟨_,_,_,rfl,frEs_nil _ _,qM _ _,qM _ _⟩
theorem stmt_continue {b:Nat} {V:Value} {all r:List Tok} {w:World} {n:Nat} {d:Int} (h:zS b V all r false false w) (hd:0≤d∧d≤100) (hint:z6 uK r=false) (hbool:z6 kH r=false) (hif:z6 sIf r=false) (hwhile:z6 vB r=false) (hbreak:z6 uL r=false) (hcontinue:z6 sCont r=true) (hn:zG (pS (n+1) d r)):
 Calls Tryz.prog 84 #[.pointer (some ⟨b,0,none⟩),.int .i64 d] w (qF b V all w (pS (n+1) d r) (yI w.heap.size)):=by
 obtain⟨hd0,hd1⟩:=hd;have HC:=hid (kC.start (x:=.ok () r) h);have hbw:=h.lt;have hdd:¬ 100<d:=by omega
 have ex:pS (n+1) d r=q9 (PR.ok (St.mk 7 0 bE [] [] []) r.tail) (fun r=>zL [59] r) fun a _=>a:=by rw[pS,if_neg (by omega),if_neg (by rw[hint,hbool];decide),if_neg (by rw[hif];decide),if_neg (by rw[hwhile];decide),if_neg (by rw[hbreak];decide),if_pos hcontinue];rfl
 rw[ex]at hn ⊢;have N0:=hid (show zP (⟨#[105,110,116]⟩:ByteArray).data.toList (PR.ok () r)=false from hint);have N1:=hid (show zP (⟨#[98,111,111,108]⟩:ByteArray).data.toList (PR.ok () r)=false from hbool);have N2:=hid (show zP (⟨#[105,102]⟩:ByteArray).data.toList (PR.ok () r)=false from hif);have N3:=hid (show zP (⟨#[119,104,105,108,101]⟩:ByteArray).data.toList (PR.ok () r)=false from hwhile);have N4:=hid (show zP (⟨#[98,114,101,97,107]⟩:ByteArray).data.toList (PR.ok () r)=false from hbreak);have Y0:=hid (show zP (⟨#[99,111,110,116,105,110,117,101]⟩:ByteArray).data.toList (PR.ok () r)=true from hcontinue);have HN:=hid (qA hn);clear h hn ex hint hbool hif hwhile hbreak hcontinue;go_enter Tryz.func84,Tryz.ntmps84
 go_wp2_with (first
  | (go_at_call 67;(with_reducible refine(qo HC.out.st _ false N0.out).mono ?_);rintro e w1 ⟨rfl,hD⟩;replace HC:=hid (HC.out.step hD);clear hD)
  | (go_at_call 67;(with_reducible refine(qo HC.out.st _ false N1.out).mono ?_);rintro e w1 ⟨rfl,hD⟩;replace HC:=hid (HC.out.step hD);clear hD)
  | (go_at_call 42;(with_reducible refine(zF HC.out.st _ N2.out).mono ?_);rintro e w1 ⟨rfl,hD⟩
     replace HC:=hid (HC.out.step hD);clear hD;obtain⟨⟨c0,c1,c2,c3,c4,c5⟩,fz⟩:=HC.out.own
     obtain⟨⟨s0,s1,s2,s3,s4,s5⟩,sz⟩:=HC.out.s)
  | (go_at_call 42;(with_reducible refine(zF HC.out.st _ N3.out).mono ?_);rintro e w1 ⟨rfl,hD⟩
     replace HC:=hid (HC.out.step hD);clear hD;obtain⟨⟨c0,c1,c2,c3,c4,c5⟩,fz⟩:=HC.out.own
     obtain⟨⟨s0,s1,s2,s3,s4,s5⟩,sz⟩:=HC.out.s)
  | (go_at_call 42;(with_reducible refine(zF HC.out.st _ N4.out).mono ?_);rintro e w1 ⟨rfl,hD⟩
     replace HC:=hid (HC.out.step hD);clear hD;obtain⟨⟨c0,c1,c2,c3,c4,c5⟩,fz⟩:=HC.out.own
     obtain⟨⟨s0,s1,s2,s3,s4,s5⟩,sz⟩:=HC.out.s)
  | (go_at_call 42;(with_reducible refine(zb HC.out.st _ Y0.out).mono ?_);rintro e w1 ⟨rfl,hD⟩
     replace HC:=hid (show kC b V all w (.ok () r.tail) w1 _ _ _ _ _ _ from HC.out.step hD);clear hD;obtain⟨⟨c0,c1,c2,c3,c4,c5⟩,fz⟩:=HC.out.own
     obtain⟨⟨s0,s1,s2,s3,s4,s5⟩,sz⟩:=HC.out.s)
  | (go_at_call 44;(with_reducible refine(zW (HC.out.set0 (.int .i64 7)).st ⟨#[59]⟩).mono ?_);rintro e w9 ⟨rfl,hD⟩
     replace HC:=hid ((HC.out.set0 (.int .i64 7)).step hD);have hz9:=HC.out.size;clear hD;obtain⟨⟨c0,c1,c2,c3,c4,c5⟩,fz⟩:=HC.out.own
     obtain⟨⟨s0,s1,s2,s3,s4,s5⟩,sz⟩:=HC.out.s))
 obtain⟨f0,f1,f2,f3,f4,f5⟩:=HC.out.1.read (.int .i64 7) (.int .i64 0) (.string ⟨#[]⟩) (.slice none 0 0) (.slice none 0 0) (.slice none 0 0);refine bodyPost_ret (v:=.agg #[.int .i64 7,.int .i64 0,.string ⟨#[]⟩,.slice none 0 0,.slice none 0 0,.slice none 0 0]) (by simp[results,Tryz.results84,go_sem,f0,f1,f2,f3,f4,f5]) rfl ?_;refine HC.out.fin (jJ _ _ _) ?_;exact qU (P1:=fun a=>a=St.mk 7 0 bE [] [] []) rfl (xj (x:=.ok () r.tail) HN.out) HN.out fun a _ ha _=>by subst ha;exact⟨_,_,_,rfl,frEs_nil _ _,qM _ _,qM _ _⟩
theorem pstmt_return {b:Nat} {V:Value} {all r:List Tok} {w:World} {n:Nat} {d:Int} (h:zS b V all r false false w) (hd:0≤d∧d≤100) (hint:z6 uK r=false) (hbool:z6 kH r=false) (hif:z6 sIf r=false) (hwhile:z6 vB r=false) (hbreak:z6 uL r=false) (hcontinue:z6 sCont r=false) (hreturn:z6 sRet r=true) (hn:zG (pS (n+1) d r)):
 Calls Tryz.prog 84 #[.pointer (some ⟨b,0,none⟩),.int .i64 d] w (qF b V all w (pS (n+1) d r) (yI w.heap.size)):=by
 obtain⟨hd0,hd1⟩:=hd;have HC:=hid (kC.start (x:=.ok () r) h);have hbw:=h.lt;have hdd:¬ 100<d:=by omega
 have ex:pS (n+1) d r=q9 (q9 (PR.ok () r.tail) (fun r=>pE n 1 1 r) fun _ e=>St.mk 8 0 bE [e] [] []) (fun r=>zL [59] r) fun a _=>a:=by rw[pS,if_neg (by omega),if_neg (by rw[hint,hbool];decide),if_neg (by rw[hif];decide),if_neg (by rw[hwhile];decide),if_neg (by rw[hbreak];decide),if_neg (by rw[hcontinue];decide),if_pos hreturn];rfl
 rw[ex]at hn ⊢;have N0:=hid (show zP (⟨#[105,110,116]⟩:ByteArray).data.toList (PR.ok () r)=false from hint);have N1:=hid (show zP (⟨#[98,111,111,108]⟩:ByteArray).data.toList (PR.ok () r)=false from hbool);have N2:=hid (show zP (⟨#[105,102]⟩:ByteArray).data.toList (PR.ok () r)=false from hif);have N3:=hid (show zP (⟨#[119,104,105,108,101]⟩:ByteArray).data.toList (PR.ok () r)=false from hwhile);have N4:=hid (show zP (⟨#[98,114,101,97,107]⟩:ByteArray).data.toList (PR.ok () r)=false from hbreak);have N5:=hid (show zP (⟨#[99,111,110,116,105,110,117,101]⟩:ByteArray).data.toList (PR.ok () r)=false from hcontinue);have Y0:=hid (show zP (⟨#[114,101,116,117,114,110]⟩:ByteArray).data.toList (PR.ok () r)=true from hreturn);have HN:=hid (qA hn);have HN2:=hid (show zG ((PR.ok () r.tail).bind fun _ r=>pE n 1 1 r) from qA (zp hn));have HE:=hid (xW (b:=b) (V:=V) (all:=all) (n:=n) (d:=1) (by decide) (by decide));clear h hn ex hint hbool hif hwhile hbreak hcontinue hreturn;go_enter Tryz.func84,Tryz.ntmps84
 go_wp2_with (first
  | (go_at_call 67;(with_reducible refine(qo HC.out.st _ false N0.out).mono ?_);rintro e w1 ⟨rfl,hD⟩;replace HC:=hid (HC.out.step hD);clear hD)
  | (go_at_call 67;(with_reducible refine(qo HC.out.st _ false N1.out).mono ?_);rintro e w1 ⟨rfl,hD⟩;replace HC:=hid (HC.out.step hD);clear hD)
  | (go_at_call 42;(with_reducible refine(zF HC.out.st _ N2.out).mono ?_);rintro e w1 ⟨rfl,hD⟩
     replace HC:=hid (HC.out.step hD);clear hD;obtain⟨⟨c0,c1,c2,c3,c4,c5⟩,fz⟩:=HC.out.own
     obtain⟨⟨s0,s1,s2,s3,s4,s5⟩,sz⟩:=HC.out.s)
  | (go_at_call 42;(with_reducible refine(zF HC.out.st _ N3.out).mono ?_);rintro e w1 ⟨rfl,hD⟩
     replace HC:=hid (HC.out.step hD);clear hD;obtain⟨⟨c0,c1,c2,c3,c4,c5⟩,fz⟩:=HC.out.own
     obtain⟨⟨s0,s1,s2,s3,s4,s5⟩,sz⟩:=HC.out.s)
  | (go_at_call 42;(with_reducible refine(zF HC.out.st _ N4.out).mono ?_);rintro e w1 ⟨rfl,hD⟩
     replace HC:=hid (HC.out.step hD);clear hD;obtain⟨⟨c0,c1,c2,c3,c4,c5⟩,fz⟩:=HC.out.own
     obtain⟨⟨s0,s1,s2,s3,s4,s5⟩,sz⟩:=HC.out.s)
  | (go_at_call 42;(with_reducible refine(zF HC.out.st _ N5.out).mono ?_);rintro e w1 ⟨rfl,hD⟩
     replace HC:=hid (HC.out.step hD);clear hD;obtain⟨⟨c0,c1,c2,c3,c4,c5⟩,fz⟩:=HC.out.own
     obtain⟨⟨s0,s1,s2,s3,s4,s5⟩,sz⟩:=HC.out.s)
  | (go_at_call 42;(with_reducible refine(zb HC.out.st _ Y0.out).mono ?_);rintro e w1 ⟨rfl,hD⟩
     replace HC:=hid (show kC b V all w (.ok () r.tail) w1 _ _ _ _ _ _ from HC.out.step hD);clear hD;obtain⟨⟨c0,c1,c2,c3,c4,c5⟩,fz⟩:=HC.out.own
     obtain⟨⟨s0,s1,s2,s3,s4,s5⟩,sz⟩:=HC.out.s)
  | (go_at_call 97;(with_reducible refine(HE.out.call HC.out.st HN2.out).mono ?_);rintro e w2 ⟨v,rfl,hD,hG⟩
     obtain⟨k1,k2,k3,k4,k5,k6,k7,rfl⟩:=qS hG HN2.out;have HG:=hid (show qn _ fun a=>jc (w.heap.size+2) w2 a _ from hG.imp fun a ha=>jc.keep ha (zD.refl _ _) (by have:=HC.out.size;simp at this ⊢;omega));replace HC:=hid (HC.out.step hD);have hzE:=HC.out.size;clear hD hG;obtain⟨⟨c0,c1,c2,c3,c4,c5⟩,fz⟩:=HC.out.own
     obtain⟨⟨s0,s1,s2,s3,s4,s5⟩,sz⟩:=HC.out.s)
  | (go_at_call 44;(with_reducible refine(zW (((HC.out.set0 (.int .i64 8)).set3 (.slice (some ⟨w2.heap.size,0,none⟩) 1 1)).alloc (.cells #[.int .i64 k1,.int .i64 k2,.int .i64 k3,.string k4,.slice k5 k6 k7] 116)).st ⟨#[59]⟩).mono ?_);rintro e w9 ⟨rfl,hD⟩
     have HF:=hid (show qn _ fun a=>zU (w.heap.size+2) _ [a] _ from HG.out.imp fun a ha=>yF (T:=116) (jc.keep ha ((zD.set (g:=w.heap.size+1) (by omega) 0 (.int .i64 8)).trans (zD.set (g:=w.heap.size+1) (by omega) 3 (.slice (some ⟨w2.heap.size,0,none⟩) 1 1))) Zr) Zr (by simp;omega) (g:=w2.heap.size) (by simp));have HK:=hid (zD.did (L:=w.heap.size+2) hD (by omega));replace HC:=hid ((((HC.out.set0 (.int .i64 8)).set3 (.slice (some ⟨w2.heap.size,0,none⟩) 1 1)).alloc (.cells #[.int .i64 k1,.int .i64 k2,.int .i64 k3,.string k4,.slice k5 k6 k7] 116)).step hD);have hz9:=HC.out.size;clear hD;obtain⟨⟨c0,c1,c2,c3,c4,c5⟩,fz⟩:=HC.out.own
     obtain⟨⟨s0,s1,s2,s3,s4,s5⟩,sz⟩:=HC.out.s))
 obtain⟨f0,f1,f2,f3,f4,f5⟩:=HC.out.1.read (.int .i64 8) (.int .i64 0) (.string ⟨#[]⟩) (.slice (some ⟨w2.heap.size,0,none⟩) 1 1) (.slice none 0 0) (.slice none 0 0);refine bodyPost_ret (v:=.agg #[.int .i64 8,.int .i64 0,.string ⟨#[]⟩,.slice (some ⟨w2.heap.size,0,none⟩) 1 1,.slice none 0 0,.slice none 0 0]) (by simp[results,Tryz.results84,go_sem,f0,f1,f2,f3,f4,f5]) rfl ?_;refine HC.out.fin (by rw[jJ,qp];rfl) ?_;refine qU (qU (P1:=fun _=>True) (P2:=_) (Q:=fun a=>∃ e,a=St.mk 8 0 bE [e] [] []∧zU (w.heap.size+2) _ [e] _) trivial HF.out HN2.out (fun _ e _ he=>⟨e,rfl,he⟩)) (xj HN.out) HN.out fun a _ ha _=>?_
 obtain⟨e,rfl,he⟩:=ha;exact⟨_,_,_,rfl,zU.keep he (HK.out.trans (zD.nest6 (by omega) _ _ _ _ _ _)) (by omega),qM _ _,qM _ _⟩
theorem pstmt_print {b:Nat} {V:Value} {all r:List Tok} {w:World} {n:Nat} {d:Int} (h:zS b V all r false false w) (hd:0≤d∧d≤100) (hint:z6 uK r=false) (hbool:z6 kH r=false) (hif:z6 sIf r=false) (hwhile:z6 vB r=false) (hbreak:z6 uL r=false) (hcontinue:z6 sCont r=false) (hreturn:z6 sRet r=false) (hprint:z6 sPrint r=true) (hn:zG (pS (n+1) d r)):
 Calls Tryz.prog 84 #[.pointer (some ⟨b,0,none⟩),.int .i64 d] w (qF b V all w (pS (n+1) d r) (yI w.heap.size)):=by
 obtain⟨hd0,hd1⟩:=hd;have HC:=hid (kC.start (x:=.ok () r) h);have hbw:=h.lt;have hdd:¬ 100<d:=by omega
 have ex:pS (n+1) d r=q9 (q9 (PR.ok () r.tail) (fun r=>pI n r) fun _ e=>St.mk 9 0 bE [e] [] []) (fun r=>zL [59] r) fun a _=>a:=by rw[pS,if_neg (by omega),if_neg (by rw[hint,hbool];decide),if_neg (by rw[hif];decide),if_neg (by rw[hwhile];decide),if_neg (by rw[hbreak];decide),if_neg (by rw[hcontinue];decide),if_neg (by rw[hreturn];decide),if_pos hprint];rfl
 rw[ex]at hn ⊢;have N0:=hid (show zP (⟨#[105,110,116]⟩:ByteArray).data.toList (PR.ok () r)=false from hint);have N1:=hid (show zP (⟨#[98,111,111,108]⟩:ByteArray).data.toList (PR.ok () r)=false from hbool);have N2:=hid (show zP (⟨#[105,102]⟩:ByteArray).data.toList (PR.ok () r)=false from hif);have N3:=hid (show zP (⟨#[119,104,105,108,101]⟩:ByteArray).data.toList (PR.ok () r)=false from hwhile);have N4:=hid (show zP (⟨#[98,114,101,97,107]⟩:ByteArray).data.toList (PR.ok () r)=false from hbreak);have N5:=hid (show zP (⟨#[99,111,110,116,105,110,117,101]⟩:ByteArray).data.toList (PR.ok () r)=false from hcontinue);have N6:=hid (show zP (⟨#[114,101,116,117,114,110]⟩:ByteArray).data.toList (PR.ok () r)=false from hreturn);have Y0:=hid (show zP (⟨#[112,114,105,110,116]⟩:ByteArray).data.toList (PR.ok () r)=true from hprint);have HN:=hid (qA hn);have HN2:=hid (show zG ((PR.ok () r.tail).bind fun _ r=>pI n r) from qA (zp hn));clear h hn ex hint hbool hif hwhile hbreak hcontinue hreturn hprint;go_enter Tryz.func84,Tryz.ntmps84
 go_wp2_with (first
  | (go_at_call 67;(with_reducible refine(qo HC.out.st _ false N0.out).mono ?_);rintro e w1 ⟨rfl,hD⟩;replace HC:=hid (HC.out.step hD);clear hD)
  | (go_at_call 67;(with_reducible refine(qo HC.out.st _ false N1.out).mono ?_);rintro e w1 ⟨rfl,hD⟩;replace HC:=hid (HC.out.step hD);clear hD)
  | (go_at_call 42;(with_reducible refine(zF HC.out.st _ N2.out).mono ?_);rintro e w1 ⟨rfl,hD⟩
     replace HC:=hid (HC.out.step hD);clear hD;obtain⟨⟨c0,c1,c2,c3,c4,c5⟩,fz⟩:=HC.out.own
     obtain⟨⟨s0,s1,s2,s3,s4,s5⟩,sz⟩:=HC.out.s)
  | (go_at_call 42;(with_reducible refine(zF HC.out.st _ N3.out).mono ?_);rintro e w1 ⟨rfl,hD⟩
     replace HC:=hid (HC.out.step hD);clear hD;obtain⟨⟨c0,c1,c2,c3,c4,c5⟩,fz⟩:=HC.out.own
     obtain⟨⟨s0,s1,s2,s3,s4,s5⟩,sz⟩:=HC.out.s)
  | (go_at_call 42;(with_reducible refine(zF HC.out.st _ N4.out).mono ?_);rintro e w1 ⟨rfl,hD⟩
     replace HC:=hid (HC.out.step hD);clear hD;obtain⟨⟨c0,c1,c2,c3,c4,c5⟩,fz⟩:=HC.out.own
     obtain⟨⟨s0,s1,s2,s3,s4,s5⟩,sz⟩:=HC.out.s)
  | (go_at_call 42;(with_reducible refine(zF HC.out.st _ N5.out).mono ?_);rintro e w1 ⟨rfl,hD⟩
     replace HC:=hid (HC.out.step hD);clear hD;obtain⟨⟨c0,c1,c2,c3,c4,c5⟩,fz⟩:=HC.out.own
     obtain⟨⟨s0,s1,s2,s3,s4,s5⟩,sz⟩:=HC.out.s)
  | (go_at_call 42;(with_reducible refine(zF HC.out.st _ N6.out).mono ?_);rintro e w1 ⟨rfl,hD⟩
     replace HC:=hid (HC.out.step hD);clear hD;obtain⟨⟨c0,c1,c2,c3,c4,c5⟩,fz⟩:=HC.out.own
     obtain⟨⟨s0,s1,s2,s3,s4,s5⟩,sz⟩:=HC.out.s)
  | (go_at_call 42;(with_reducible refine(zb HC.out.st _ Y0.out).mono ?_);rintro e w1 ⟨rfl,hD⟩
     replace HC:=hid (show kC b V all w (.ok () r.tail) w1 _ _ _ _ _ _ from HC.out.step hD);clear hD;obtain⟨⟨c0,c1,c2,c3,c4,c5⟩,fz⟩:=HC.out.own
     obtain⟨⟨s0,s1,s2,s3,s4,s5⟩,sz⟩:=HC.out.s)
  | (go_at_call 98;(with_reducible refine(yg HC.out.st HN2.out).mono ?_);rintro e w2 ⟨v,rfl,hD,hG⟩
     obtain⟨k5,k6,k7,rfl⟩:=uw hG HN2.out;have HF:=hid (show qn _ fun a=>zU (w.heap.size+2) w2 [a] (.slice k5 k6 k7) from hG.imp fun a ha=>zU.keep ha (zD.refl _ _) (by have:=HC.out.size;simp at this ⊢;omega));replace HC:=hid (HC.out.step hD);clear hD hG;obtain⟨⟨c0,c1,c2,c3,c4,c5⟩,fz⟩:=HC.out.own
     obtain⟨⟨s0,s1,s2,s3,s4,s5⟩,sz⟩:=HC.out.s)
  | (go_at_call 44;(with_reducible refine(zW ((HC.out.set0 (.int .i64 9)).set3 (.slice k5 k6 k7)).st ⟨#[59]⟩).mono ?_);rintro e w9 ⟨rfl,hD⟩
     have HK:=hid (((zD.set (L:=w.heap.size+2) (g:=w.heap.size+1) (by omega) 0 (.int .i64 9)).trans (zD.set (g:=w.heap.size+1) (by omega) 3 (.slice k5 k6 k7))).trans (zD.did hD (by omega)));replace HC:=hid (((HC.out.set0 (.int .i64 9)).set3 (.slice k5 k6 k7)).step hD);have hz9:=HC.out.size;clear hD;obtain⟨⟨c0,c1,c2,c3,c4,c5⟩,fz⟩:=HC.out.own
     obtain⟨⟨s0,s1,s2,s3,s4,s5⟩,sz⟩:=HC.out.s))
 obtain⟨f0,f1,f2,f3,f4,f5⟩:=HC.out.1.read (.int .i64 9) (.int .i64 0) (.string ⟨#[]⟩) (.slice k5 k6 k7) (.slice none 0 0) (.slice none 0 0);refine bodyPost_ret (v:=.agg #[.int .i64 9,.int .i64 0,.string ⟨#[]⟩,.slice k5 k6 k7,.slice none 0 0,.slice none 0 0]) (by simp[results,Tryz.results84,go_sem,f0,f1,f2,f3,f4,f5]) rfl ?_;refine HC.out.fin (by rw[jJ,qp];rfl) ?_;refine qU (qU (P1:=fun _=>True) (P2:=_) (Q:=fun a=>∃ e,a=St.mk 9 0 bE [e] [] []∧zU (w.heap.size+2) _ [e] _) trivial HF.out HN2.out (fun _ e _ he=>⟨e,rfl,he⟩)) (xj HN.out) HN.out fun a _ ha _=>?_
 obtain⟨e,rfl,he⟩:=ha;exact⟨_,_,_,rfl,zU.keep he (HK.out.trans (zD.nest6 (by omega) _ _ _ _ _ _)) (by omega),qM _ _,qM _ _⟩
theorem stmt_name {b:Nat} {V:Value} {all r:List Tok} {w:World} {n:Nat} {d:Int} (h:zS b V all r false false w) (hd:0≤d∧d≤100) (hint:z6 uK r=false) (hbool:z6 kH r=false) (hif:z6 sIf r=false) (hwhile:z6 vB r=false) (hbreak:z6 uL r=false) (hcontinue:z6 sCont r=false) (hreturn:z6 sRet r=false) (hprint:z6 sPrint r=false) (hn:zG (pS (n+1) d r)):
 Calls Tryz.prog 84 #[.pointer (some ⟨b,0,none⟩),.int .i64 d] w (qF b V all w (pS (n+1) d r) (yI w.heap.size)):=by
 obtain⟨hd0,hd1⟩:=hd;have HC:=hid (kC.start (x:=.ok () r) h);have hbw:=h.lt;have hdd:¬ 100<d:=by omega
 have ex:pS (n+1) d r=q9 ((PR.ok () r).bind fun _ r=>pNm n r) (fun r=>zL [59] r) fun a _=>a:=by rw[pS,if_neg (by omega),if_neg (by rw[hint,hbool];decide),if_neg (by rw[hif];decide),if_neg (by rw[hwhile];decide),if_neg (by rw[hbreak];decide),if_neg (by rw[hcontinue];decide),if_neg (by rw[hreturn];decide),if_neg (by rw[hprint];decide)];rfl
 rw[ex]at hn ⊢;have N0:=hid (show zP (⟨#[105,110,116]⟩:ByteArray).data.toList (PR.ok () r)=false from hint);have N1:=hid (show zP (⟨#[98,111,111,108]⟩:ByteArray).data.toList (PR.ok () r)=false from hbool);have N2:=hid (show zP (⟨#[105,102]⟩:ByteArray).data.toList (PR.ok () r)=false from hif);have N3:=hid (show zP (⟨#[119,104,105,108,101]⟩:ByteArray).data.toList (PR.ok () r)=false from hwhile);have N4:=hid (show zP (⟨#[98,114,101,97,107]⟩:ByteArray).data.toList (PR.ok () r)=false from hbreak);have N5:=hid (show zP (⟨#[99,111,110,116,105,110,117,101]⟩:ByteArray).data.toList (PR.ok () r)=false from hcontinue);have N6:=hid (show zP (⟨#[114,101,116,117,114,110]⟩:ByteArray).data.toList (PR.ok () r)=false from hreturn);have N7:=hid (show zP (⟨#[112,114,105,110,116]⟩:ByteArray).data.toList (PR.ok () r)=false from hprint);have HN:=hid (qA hn);have HN2:=hid (show zG ((PR.ok () r).bind fun _ r=>pNm n r) from zp hn);clear h hn ex hint hbool hif hwhile hbreak hcontinue hreturn hprint;go_enter Tryz.func84,Tryz.ntmps84
 go_wp2_with (first
  | (go_at_call 67;(with_reducible refine(qo HC.out.st _ false N0.out).mono ?_);rintro e w1 ⟨rfl,hD⟩;replace HC:=hid (HC.out.step hD);clear hD)
  | (go_at_call 67;(with_reducible refine(qo HC.out.st _ false N1.out).mono ?_);rintro e w1 ⟨rfl,hD⟩;replace HC:=hid (HC.out.step hD);clear hD)
  | (go_at_call 42;(with_reducible refine(zF HC.out.st _ N2.out).mono ?_);rintro e w1 ⟨rfl,hD⟩
     replace HC:=hid (HC.out.step hD);clear hD;obtain⟨⟨c0,c1,c2,c3,c4,c5⟩,fz⟩:=HC.out.own
     obtain⟨⟨s0,s1,s2,s3,s4,s5⟩,sz⟩:=HC.out.s)
  | (go_at_call 42;(with_reducible refine(zF HC.out.st _ N3.out).mono ?_);rintro e w1 ⟨rfl,hD⟩
     replace HC:=hid (HC.out.step hD);clear hD;obtain⟨⟨c0,c1,c2,c3,c4,c5⟩,fz⟩:=HC.out.own
     obtain⟨⟨s0,s1,s2,s3,s4,s5⟩,sz⟩:=HC.out.s)
  | (go_at_call 42;(with_reducible refine(zF HC.out.st _ N4.out).mono ?_);rintro e w1 ⟨rfl,hD⟩
     replace HC:=hid (HC.out.step hD);clear hD;obtain⟨⟨c0,c1,c2,c3,c4,c5⟩,fz⟩:=HC.out.own
     obtain⟨⟨s0,s1,s2,s3,s4,s5⟩,sz⟩:=HC.out.s)
  | (go_at_call 42;(with_reducible refine(zF HC.out.st _ N5.out).mono ?_);rintro e w1 ⟨rfl,hD⟩
     replace HC:=hid (HC.out.step hD);clear hD;obtain⟨⟨c0,c1,c2,c3,c4,c5⟩,fz⟩:=HC.out.own
     obtain⟨⟨s0,s1,s2,s3,s4,s5⟩,sz⟩:=HC.out.s)
  | (go_at_call 42;(with_reducible refine(zF HC.out.st _ N6.out).mono ?_);rintro e w1 ⟨rfl,hD⟩
     replace HC:=hid (HC.out.step hD);clear hD;obtain⟨⟨c0,c1,c2,c3,c4,c5⟩,fz⟩:=HC.out.own
     obtain⟨⟨s0,s1,s2,s3,s4,s5⟩,sz⟩:=HC.out.s)
  | (go_at_call 42;(with_reducible refine(zF HC.out.st _ N7.out).mono ?_);rintro e w1 ⟨rfl,hD⟩
     replace HC:=hid (HC.out.step hD);clear hD;obtain⟨⟨c0,c1,c2,c3,c4,c5⟩,fz⟩:=HC.out.own
     obtain⟨⟨s0,s1,s2,s3,s4,s5⟩,sz⟩:=HC.out.s)
  | (go_at_call 99;(with_reducible refine(named_any HC.out.st HN2.out).mono ?_);rintro e w2 ⟨v,rfl,hD,hG⟩
     obtain⟨k0,k1,k2,A3,m3,q3,A4,m4,q4,A5,m5,q5,rfl⟩:=gots_form hG HN2.out;have HF:=hid (show qn _ fun a=>yI (w.heap.size+2) w2 a _ from hG.imp fun a ha=>yI.keep ha (zD.refl _ _) (by have:=HC.out.size;simp at this ⊢;omega));replace HC:=hid (HC.out.step hD);clear hD hG;obtain⟨⟨c0,c1,c2,c3,c4,c5⟩,fz⟩:=HC.out.own
     obtain⟨⟨s0,s1,s2,s3,s4,s5⟩,sz⟩:=HC.out.s)
  | (go_at_call 44;(with_reducible refine(zW ((((((HC.out.set0 (.int .i64 k0)).set1 (.int .i64 k1)).set2 (.string k2)).set3 (.slice A3 m3 q3)).set4 (.slice A4 m4 q4)).set5 (.slice A5 m5 q5)).st ⟨#[59]⟩).mono ?_);rintro e w9 ⟨rfl,hD⟩
     have HK:=hid ((zD.nest6 (L:=w.heap.size+2) (g:=w.heap.size+1) (by omega) (.int .i64 k0) (.int .i64 k1) (.string k2) (.slice A3 m3 q3) (.slice A4 m4 q4) (.slice A5 m5 q5)).trans (zD.did hD (by omega)));replace HC:=hid (((((((HC.out.set0 (.int .i64 k0)).set1 (.int .i64 k1)).set2 (.string k2)).set3 (.slice A3 m3 q3)).set4 (.slice A4 m4 q4)).set5 (.slice A5 m5 q5)).step hD);have hz9:=HC.out.size;clear hD;obtain⟨⟨c0,c1,c2,c3,c4,c5⟩,fz⟩:=HC.out.own
     obtain⟨⟨s0,s1,s2,s3,s4,s5⟩,sz⟩:=HC.out.s))
 obtain⟨f0,f1,f2,f3,f4,f5⟩:=HC.out.1.read (.int .i64 k0) (.int .i64 k1) (.string k2) (.slice A3 m3 q3) (.slice A4 m4 q4) (.slice A5 m5 q5);refine bodyPost_ret (v:=.agg #[.int .i64 k0,.int .i64 k1,.string k2,.slice A3 m3 q3,.slice A4 m4 q4,.slice A5 m5 q5]) (by simp[results,Tryz.results84,go_sem,f0,f1,f2,f3,f4,f5]) rfl ?_;refine HC.out.fin (jJ _ _ _) ?_;exact qU HF.out (xj HN.out) HN.out fun a _ ha _=>yI.keep ha (HK.out.trans (zD.nest6 (by omega) _ _ _ _ _ _)) (by omega)
theorem stmt_int {b:Nat} {V:Value} {all r:List Tok} {w:World} {n:Nat} {d:Int} (h:zS b V all r false false w) (hd:0≤d∧d≤100) (hint:z6 uK r=true) (hn:zG (pS (n+1) d r)):
 Calls Tryz.prog 84 #[.pointer (some ⟨b,0,none⟩),.int .i64 d] w (qF b V all w (pS (n+1) d r) (yI w.heap.size)):=by
 obtain⟨hd0,hd1⟩:=hd;have HC:=hid (kC.start (x:=.ok () r) h);have hbw:=h.lt;have hdd:¬ 100<d:=by omega
 have ex:pS (n+1) d r=q9 (q9 (q9 ((PR.ok () r).bind fun _ r=>uM r) (fun r=>qP 1 r) fun t s=>(t,s)) (fun r=>(zL [61] r).bind fun _ r=>pE n 1 1 r) fun p e=>St.mk 1 p.1 p.2 [e] [] []) (fun r=>zL [59] r) fun a _=>a:=by
  rw[pS,if_neg (by omega),if_pos (.inl hint)];unfold yN q9;simp only[zR,ux]
 rw[ex]at hn ⊢;have Y0:=hid (show zP (⟨#[105,110,116]⟩:ByteArray).data.toList (PR.ok () r)=true from hint);have HN:=hid (qA hn);have hE3:=qA (zp hn);have HN3:=hid hE3;have hE1:=zp (zp (zp hn));have HN1:=hid hE1;have HNW:=hid (qA (zp (zp hn)));rw[qp,←zR]at hE3;have HN2:=hid hE3;clear h hn ex hE3 hE1 hint;have HE:=hid (xW (b:=b) (V:=V) (all:=all) (n:=n) (d:=1) (by decide) (by decide));go_enter Tryz.func84,Tryz.ntmps84
 go_wp2_with (first
  | (go_at_call 67;(with_reducible refine(qo HC.out.st _ true Y0.out).mono ?_);rintro e w1 ⟨rfl,hD⟩;replace HC:=hid (HC.out.step hD);clear hD)
  | (go_at_call 40;(with_reducible refine(yR HC.out.st).mono ?_);rintro e w2 ⟨v,rfl,hD,hG⟩
     obtain⟨t,rfl⟩:=int_form hG HN1.out;have HGT:=hid (show qn _ fun a=>a=t from hG.imp fun a ha=>by injection (show Value.int .i64 t=.int .i64 a from ha) with _ h;exact h.symm);replace HC:=hid (HC.out.step hD);clear hD hG;obtain⟨⟨c0,c1,c2,c3,c4,c5⟩,fz⟩:=HC.out.own
     obtain⟨⟨s0,s1,s2,s3,s4,s5⟩,sz⟩:=HC.out.s)
  | (go_at_call 41;(with_reducible refine(xB ((HC.out.set0 (.int .i64 1)).set1 (.int .i64 t)).st 1 (by decide)).mono ?_);rintro e w3 ⟨s,rfl,hD,hG⟩
     have HGS:=hid hG;replace HC:=hid (((HC.out.set0 (.int .i64 1)).set1 (.int .i64 t)).step hD);clear hD hG;obtain⟨⟨c0,c1,c2,c3,c4,c5⟩,fz⟩:=HC.out.own
     obtain⟨⟨s0,s1,s2,s3,s4,s5⟩,sz⟩:=HC.out.s)
  | (go_at_call 44;(with_reducible refine(zW (HC.out.set2 (.string s)).st ⟨#[61]⟩).mono ?_);rintro e w4 ⟨rfl,hD⟩
     replace HC:=hid (show kC b V all w ((((PR.ok () r).bind fun _ r=>uM r).un.bind fun _ r=>qP 1 r).un.bind fun _ r=>zL [61] r) w4 _ _ _ _ _ _ from(HC.out.set2 (.string s)).step hD);clear hD;obtain⟨⟨c0,c1,c2,c3,c4,c5⟩,fz⟩:=HC.out.own
     obtain⟨⟨s0,s1,s2,s3,s4,s5⟩,sz⟩:=HC.out.s)
  | (go_at_call 97;(with_reducible refine(HE.out.call HC.out.st HN2.out).mono ?_);rintro e w5 ⟨v,rfl,hD,hG⟩
     obtain⟨k1,k2,k3,k4,k5,k6,k7,rfl⟩:=qS hG HN2.out;have HG:=hid (show qn _ fun a=>jc (w.heap.size+2) w5 a _ from hG.imp fun a ha=>jc.keep ha (zD.refl _ _) (by have:=HC.out.size;simp at this ⊢;omega));replace HC:=hid (HC.out.step hD);have hzE:=HC.out.size;clear hD hG;obtain⟨⟨c0,c1,c2,c3,c4,c5⟩,fz⟩:=HC.out.own
     obtain⟨⟨s0,s1,s2,s3,s4,s5⟩,sz⟩:=HC.out.s)
  | (go_at_call 44;(with_reducible refine(zW ((HC.out.set3 (.slice (some ⟨w5.heap.size,0,none⟩) 1 1)).alloc (.cells #[.int .i64 k1,.int .i64 k2,.int .i64 k3,.string k4,.slice k5 k6 k7] 116)).st ⟨#[59]⟩).mono ?_);rintro e w9 ⟨rfl,hD⟩
     have HF:=hid (show qn _ fun a=>zU (w.heap.size+2) _ [a] _ from HG.out.imp fun a ha=>yF (T:=116) (jc.keep ha (zD.set (g:=w.heap.size+1) (by omega) 3 (.slice (some ⟨w5.heap.size,0,none⟩) 1 1)) Zr) Zr (by simp;omega) (g:=w5.heap.size) (by simp));have HK:=hid (zD.did (L:=w.heap.size+2) hD (by omega));replace HC:=hid (((HC.out.set3 (.slice (some ⟨w5.heap.size,0,none⟩) 1 1)).alloc (.cells #[.int .i64 k1,.int .i64 k2,.int .i64 k3,.string k4,.slice k5 k6 k7] 116)).step hD);have hz9:=HC.out.size;clear hD;obtain⟨⟨c0,c1,c2,c3,c4,c5⟩,fz⟩:=HC.out.own
     obtain⟨⟨s0,s1,s2,s3,s4,s5⟩,sz⟩:=HC.out.s))
 obtain⟨f0,f1,f2,f3,f4,f5⟩:=HC.out.1.read (.int .i64 1) (.int .i64 t) (.string s) (.slice (some ⟨w5.heap.size,0,none⟩) 1 1) (.slice none 0 0) (.slice none 0 0);refine bodyPost_ret (v:=.agg #[.int .i64 1,.int .i64 t,.string s,.slice (some ⟨w5.heap.size,0,none⟩) 1 1,.slice none 0 0,.slice none 0 0]) (by simp[results,Tryz.results84,go_sem,f0,f1,f2,f3,f4,f5]) rfl ?_;refine HC.out.fin (by rw[jJ,qp,qp,←zR]) ?_;have hF:=HF.out;rw[zR,←qp (F:=fun (a:Int) (s:ByteArray)=>(a,s))]at hF;refine qU (qU (Q:=fun a=>∃ e,a=St.mk 1 t s [e] [] []∧zU (w.heap.size+2) _ [e] _) (qU (Q:=fun p=>p=(t,s)) HGT.out HGS.out HNW.out (fun a b ha hb=>by rw[ha,hb])) hF HN3.out (fun p e hp he=>⟨e,by rw[hp],he⟩)) (xj HN.out) HN.out fun a _ ha _=>?_
 obtain⟨e,rfl,he⟩:=ha;exact⟨_,_,_,rfl,zU.keep he (HK.out.trans (zD.nest6 (by omega) _ _ _ _ _ _)) (by omega),qM _ _,qM _ _⟩
theorem stmt_bool {b:Nat} {V:Value} {all r:List Tok} {w:World} {n:Nat} {d:Int} (h:zS b V all r false false w) (hd:0≤d∧d≤100) (hint:z6 uK r=false) (hbool:z6 kH r=true) (hn:zG (pS (n+1) d r)):
 Calls Tryz.prog 84 #[.pointer (some ⟨b,0,none⟩),.int .i64 d] w (qF b V all w (pS (n+1) d r) (yI w.heap.size)):=by
 obtain⟨hd0,hd1⟩:=hd;have HC:=hid (kC.start (x:=.ok () r) h);have hbw:=h.lt;have hdd:¬ 100<d:=by omega
 have ex:pS (n+1) d r=q9 (q9 (q9 ((PR.ok () r).bind fun _ r=>uM r) (fun r=>qP 1 r) fun t s=>(t,s)) (fun r=>(zL [61] r).bind fun _ r=>pE n 1 1 r) fun p e=>St.mk 1 p.1 p.2 [e] [] []) (fun r=>zL [59] r) fun a _=>a:=by
  rw[pS,if_neg (by omega),if_pos (.inr hbool)];unfold yN q9;simp only[zR,ux]
 rw[ex]at hn ⊢;have N0:=hid (show zP (⟨#[105,110,116]⟩:ByteArray).data.toList (PR.ok () r)=false from hint);have Y0:=hid (show zP (⟨#[98,111,111,108]⟩:ByteArray).data.toList (PR.ok () r)=true from hbool);have HN:=hid (qA hn);have hE3:=qA (zp hn);have HN3:=hid hE3;have hE1:=zp (zp (zp hn));have HN1:=hid hE1;have HNW:=hid (qA (zp (zp hn)));rw[qp,←zR]at hE3;have HN2:=hid hE3;clear h hn ex hE3 hE1 hint hbool;have HE:=hid (xW (b:=b) (V:=V) (all:=all) (n:=n) (d:=1) (by decide) (by decide));go_enter Tryz.func84,Tryz.ntmps84
 go_wp2_with (first
  | (go_at_call 67;(with_reducible refine(qo HC.out.st _ false N0.out).mono ?_);rintro e w1 ⟨rfl,hD⟩;replace HC:=hid (HC.out.step hD);clear hD)
  | (go_at_call 67;(with_reducible refine(qo HC.out.st _ true Y0.out).mono ?_);rintro e w1 ⟨rfl,hD⟩;replace HC:=hid (HC.out.step hD);clear hD)
  | (go_at_call 40;(with_reducible refine(yR HC.out.st).mono ?_);rintro e w2 ⟨v,rfl,hD,hG⟩
     obtain⟨t,rfl⟩:=int_form hG HN1.out;have HGT:=hid (show qn _ fun a=>a=t from hG.imp fun a ha=>by injection (show Value.int .i64 t=.int .i64 a from ha) with _ h;exact h.symm);replace HC:=hid (HC.out.step hD);clear hD hG;obtain⟨⟨c0,c1,c2,c3,c4,c5⟩,fz⟩:=HC.out.own
     obtain⟨⟨s0,s1,s2,s3,s4,s5⟩,sz⟩:=HC.out.s)
  | (go_at_call 41;(with_reducible refine(xB ((HC.out.set0 (.int .i64 1)).set1 (.int .i64 t)).st 1 (by decide)).mono ?_);rintro e w3 ⟨s,rfl,hD,hG⟩
     have HGS:=hid hG;replace HC:=hid (((HC.out.set0 (.int .i64 1)).set1 (.int .i64 t)).step hD);clear hD hG;obtain⟨⟨c0,c1,c2,c3,c4,c5⟩,fz⟩:=HC.out.own
     obtain⟨⟨s0,s1,s2,s3,s4,s5⟩,sz⟩:=HC.out.s)
  | (go_at_call 44;(with_reducible refine(zW (HC.out.set2 (.string s)).st ⟨#[61]⟩).mono ?_);rintro e w4 ⟨rfl,hD⟩
     replace HC:=hid (show kC b V all w ((((PR.ok () r).bind fun _ r=>uM r).un.bind fun _ r=>qP 1 r).un.bind fun _ r=>zL [61] r) w4 _ _ _ _ _ _ from(HC.out.set2 (.string s)).step hD);clear hD;obtain⟨⟨c0,c1,c2,c3,c4,c5⟩,fz⟩:=HC.out.own
     obtain⟨⟨s0,s1,s2,s3,s4,s5⟩,sz⟩:=HC.out.s)
  | (go_at_call 97;(with_reducible refine(HE.out.call HC.out.st HN2.out).mono ?_);rintro e w5 ⟨v,rfl,hD,hG⟩
     obtain⟨k1,k2,k3,k4,k5,k6,k7,rfl⟩:=qS hG HN2.out;have HG:=hid (show qn _ fun a=>jc (w.heap.size+2) w5 a _ from hG.imp fun a ha=>jc.keep ha (zD.refl _ _) (by have:=HC.out.size;simp at this ⊢;omega));replace HC:=hid (HC.out.step hD);have hzE:=HC.out.size;clear hD hG;obtain⟨⟨c0,c1,c2,c3,c4,c5⟩,fz⟩:=HC.out.own
     obtain⟨⟨s0,s1,s2,s3,s4,s5⟩,sz⟩:=HC.out.s)
  | (go_at_call 44;(with_reducible refine(zW ((HC.out.set3 (.slice (some ⟨w5.heap.size,0,none⟩) 1 1)).alloc (.cells #[.int .i64 k1,.int .i64 k2,.int .i64 k3,.string k4,.slice k5 k6 k7] 116)).st ⟨#[59]⟩).mono ?_);rintro e w9 ⟨rfl,hD⟩
     have HF:=hid (show qn _ fun a=>zU (w.heap.size+2) _ [a] _ from HG.out.imp fun a ha=>yF (T:=116) (jc.keep ha (zD.set (g:=w.heap.size+1) (by omega) 3 (.slice (some ⟨w5.heap.size,0,none⟩) 1 1)) Zr) Zr (by simp;omega) (g:=w5.heap.size) (by simp));have HK:=hid (zD.did (L:=w.heap.size+2) hD (by omega));replace HC:=hid (((HC.out.set3 (.slice (some ⟨w5.heap.size,0,none⟩) 1 1)).alloc (.cells #[.int .i64 k1,.int .i64 k2,.int .i64 k3,.string k4,.slice k5 k6 k7] 116)).step hD);have hz9:=HC.out.size;clear hD;obtain⟨⟨c0,c1,c2,c3,c4,c5⟩,fz⟩:=HC.out.own
     obtain⟨⟨s0,s1,s2,s3,s4,s5⟩,sz⟩:=HC.out.s))
 obtain⟨f0,f1,f2,f3,f4,f5⟩:=HC.out.1.read (.int .i64 1) (.int .i64 t) (.string s) (.slice (some ⟨w5.heap.size,0,none⟩) 1 1) (.slice none 0 0) (.slice none 0 0);refine bodyPost_ret (v:=.agg #[.int .i64 1,.int .i64 t,.string s,.slice (some ⟨w5.heap.size,0,none⟩) 1 1,.slice none 0 0,.slice none 0 0]) (by simp[results,Tryz.results84,go_sem,f0,f1,f2,f3,f4,f5]) rfl ?_;refine HC.out.fin (by rw[jJ,qp,qp,←zR]) ?_;have hF:=HF.out;rw[zR,←qp (F:=fun (a:Int) (s:ByteArray)=>(a,s))]at hF;refine qU (qU (Q:=fun a=>∃ e,a=St.mk 1 t s [e] [] []∧zU (w.heap.size+2) _ [e] _) (qU (Q:=fun p=>p=(t,s)) HGT.out HGS.out HNW.out (fun a b ha hb=>by rw[ha,hb])) hF HN3.out (fun p e hp he=>⟨e,by rw[hp],he⟩)) (xj HN.out) HN.out fun a _ ha _=>?_
 obtain⟨e,rfl,he⟩:=ha;exact⟨_,_,_,rfl,zU.keep he (HK.out.trans (zD.nest6 (by omega) _ _ _ _ _ _)) (by omega),qM _ _,qM _ _⟩
theorem pstmt_while {b:Nat} {V:Value} {all r:List Tok} {w:World} {n:Nat} {d:Int} (hB:CB b V all n (d+1)) (h:zS b V all r false false w) (hd:0≤d∧d≤100) (hint:z6 uK r=false) (hbool:z6 kH r=false) (hif:z6 sIf r=false) (hwhile:z6 vB r=true) (hn:zG (pS (n+1) d r)):
 Calls Tryz.prog 84 #[.pointer (some ⟨b,0,none⟩),.int .i64 d] w (qF b V all w (pS (n+1) d r) (yI w.heap.size)):=by
 obtain⟨hd0,hd1⟩:=hd;have HC:=hid (kC.start (x:=.ok () r) h);have hbw:=h.lt;have hdd:¬ 100<d:=by omega
 have ex:pS (n+1) d r=q9 ((PR.ok () r.tail).bind fun _ r=>pI n r) (fun r=>pB n (d+1) r) fun e t=>St.mk 5 0 bE [e] t []:=by rw[pS,if_neg (by omega),if_neg (by rw[hint,hbool];decide),if_neg (by rw[hif];decide),if_pos hwhile];rfl
 rw[ex]at hn ⊢;have N0:=hid (show zP (⟨#[105,110,116]⟩:ByteArray).data.toList (PR.ok () r)=false from hint);have N1:=hid (show zP (⟨#[98,111,111,108]⟩:ByteArray).data.toList (PR.ok () r)=false from hbool);have N2:=hid (show zP (⟨#[105,102]⟩:ByteArray).data.toList (PR.ok () r)=false from hif);have Y0:=hid (show zP (⟨#[119,104,105,108,101]⟩:ByteArray).data.toList (PR.ok () r)=true from hwhile);have HN:=hid (qA hn);have HN2:=hid (zp hn);have HB:=hid hB;clear h hn ex hB hint hbool hif hwhile;go_enter Tryz.func84,Tryz.ntmps84
 go_wp2_with (first
  | (go_at_call 67;(with_reducible refine(qo HC.out.st _ false N0.out).mono ?_);rintro e w1 ⟨rfl,hD⟩;replace HC:=hid (HC.out.step hD);clear hD)
  | (go_at_call 67;(with_reducible refine(qo HC.out.st _ false N1.out).mono ?_);rintro e w1 ⟨rfl,hD⟩;replace HC:=hid (HC.out.step hD);clear hD)
  | (go_at_call 42;(with_reducible refine(zF HC.out.st _ N2.out).mono ?_);rintro e w1 ⟨rfl,hD⟩
     replace HC:=hid (HC.out.step hD);clear hD;obtain⟨⟨c0,c1,c2,c3,c4,c5⟩,fz⟩:=HC.out.own
     obtain⟨⟨s0,s1,s2,s3,s4,s5⟩,sz⟩:=HC.out.s)
  | (go_at_call 42;(with_reducible refine(zb HC.out.st _ Y0.out).mono ?_);rintro e w1 ⟨rfl,hD⟩
     replace HC:=hid (show kC b V all w (.ok () r.tail) w1 _ _ _ _ _ _ from HC.out.step hD);clear hD;obtain⟨⟨c0,c1,c2,c3,c4,c5⟩,fz⟩:=HC.out.own
     obtain⟨⟨s0,s1,s2,s3,s4,s5⟩,sz⟩:=HC.out.s)
  | (go_at_call 98;(with_reducible refine(yg HC.out.st HN2.out).mono ?_);rintro e w2 ⟨v,rfl,hD,hG⟩
     obtain⟨k5,k6,k7,rfl⟩:=uw hG HN2.out;have HF:=hid (show qn _ fun a=>zU (w.heap.size+2) w2 [a] (.slice k5 k6 k7) from hG.imp fun a ha=>zU.keep ha (zD.refl _ _) (by have:=HC.out.size;simp at this ⊢;omega));replace HC:=hid (HC.out.step hD);clear hD hG;obtain⟨⟨c0,c1,c2,c3,c4,c5⟩,fz⟩:=HC.out.own
     obtain⟨⟨s0,s1,s2,s3,s4,s5⟩,sz⟩:=HC.out.s)
  | (go_at_call 68;(with_reducible refine(HB.out.call ((HC.out.set0 (.int .i64 5)).set3 (.slice k5 k6 k7)).st HN.out).mono ?_);rintro e w3 ⟨v,rfl,hD,hG⟩
     obtain⟨A4,m4,q4,rfl⟩:=kB hG HN.out;have HS:=hid (show qn _ fun a=>zT (w.heap.size+2) w3 a _ from hG.imp fun a ha=>zT.keep ha (zD.refl _ _) (by have:=HC.out.size;simp at this ⊢;omega));have HK:=hid (((zD.set (L:=w.heap.size+2) (g:=w.heap.size+1) (by omega) 0 (.int .i64 5)).trans (zD.set (g:=w.heap.size+1) (by omega) 3 (.slice k5 k6 k7))).trans (zD.did hD (by omega)));replace HC:=hid (((HC.out.set0 (.int .i64 5)).set3 (.slice k5 k6 k7)).step hD);clear hD hG;obtain⟨⟨c0,c1,c2,c3,c4,c5⟩,fz⟩:=HC.out.own
     obtain⟨⟨s0,s1,s2,s3,s4,s5⟩,sz⟩:=HC.out.s))
 have HC2:=hid (HC.out.set4 (.slice A4 m4 q4));obtain⟨f0,f1,f2,f3,f4,f5⟩:=HC2.out.1.read (.int .i64 5) (.int .i64 0) (.string ⟨#[]⟩) (.slice k5 k6 k7) (.slice A4 m4 q4) (.slice none 0 0);refine bodyPost_ret (v:=.agg #[.int .i64 5,.int .i64 0,.string ⟨#[]⟩,.slice k5 k6 k7,.slice A4 m4 q4,.slice none 0 0]) (by simp[results,Tryz.results84,go_sem,f0,f1,f2,f3,f4,f5]) rfl ?_;have hk:=(zD.set (L:=w.heap.size+2) (w:=w3) (g:=w.heap.size+1) (by omega) 4 (.slice A4 m4 q4)).trans (zD.nest6 (g:=w.heap.size) (by omega) (.int .i64 5) (.int .i64 0) (.string ⟨#[]⟩) (.slice k5 k6 k7) (.slice A4 m4 q4) (.slice none 0 0));refine HC2.out.fin (qp _ _ _) (qU HF.out HS.out HN.out fun e t he ht=>?_);exact⟨_,_,_,rfl,zU.keep he (HK.out.trans hk) (by omega),zT.keep ht hk (by omega),qM _ _⟩
theorem if_split {n:Nat} {d:Int} {r:List Tok}:((pI n r.tail).bind fun e r=>(pB n (d+1) r).bind fun t r=>pEl n d e t r)=(q9 ((PR.ok () r.tail).bind fun _ r=>pI n r) (fun r=>pB n (d+1) r) fun e t=>(e,t)).bind fun p r=>pEl n d p.1 p.2 r:=by
 unfold q9;simp only[zR,ux]
theorem uy {b:Nat} {V:Value} {all r:List Tok} {w:World} {n:Nat} {d:Int} (hB:CB b V all n (d+1)) (h:zS b V all r false false w) (hd:0≤d∧d≤100) (hint:z6 uK r=false) (hbool:z6 kH r=false) (hif:z6 sIf r=true) (hel:zP sElse (q9 ((PR.ok () r.tail).bind fun _ r=>pI n r) (fun r=>pB n (d+1) r) fun e t=>(e,t))=false) (hn:zG (pS (n+1) d r)):
 Calls Tryz.prog 84 #[.pointer (some ⟨b,0,none⟩),.int .i64 d] w (qF b V all w (pS (n+1) d r) (yI w.heap.size)):=by
 obtain⟨hd0,hd1⟩:=hd;have HC:=hid (kC.start (x:=.ok () r) h);have hbw:=h.lt;have hdd:¬ 100<d:=by omega
 have ex:pS (n+1) d r=q9 ((PR.ok () r.tail).bind fun _ r=>pI n r) (fun r=>pB n (d+1) r) fun e t=>St.mk 4 0 bE [e] t []:=by
  have h0:pS (n+1) d r=(q9 ((PR.ok () r.tail).bind fun _ r=>pI n r) (fun r=>pB n (d+1) r) fun e t=>(e,t)).bind fun p r=>pEl n d p.1 p.2 r:=by rw[pS,if_neg (by omega),if_neg (by rw[hint,hbool];decide),if_pos hif,if_split]
  rw[h0]at hn ⊢
  have h1:(q9 ((PR.ok () r.tail).bind fun _ r=>pI n r) (fun r=>pB n (d+1) r) fun e t=>St.mk 4 0 bE [e] t [])=(q9 ((PR.ok () r.tail).bind fun _ r=>pI n r) (fun r=>pB n (d+1) r) fun e t=>(e,t)).bind fun p r=>.ok (St.mk 4 0 bE [p.1] p.2 []) r:=by
   unfold q9;simp only[zR,ux]
  rw[h1];cases hx:(q9 ((PR.ok () r.tail).bind fun _ r=>pI n r) (fun r=>pB n (d+1) r) fun e t=>(e,t)) with
  | ok p r2=>
    rw[hx]at hn hel;cases n with
    | zero=>exact absurd (show zG (pEl 0 d p.1 p.2 r2) from hn) (by rw[pEl];exact id)
    | succ n=>
      show pEl (n+1) d p.1 p.2 r2=.ok _ r2;rw[pEl,if_neg (by rw[show z6 sElse r2=false from hel];decide)]
  | _=>rfl
 rw[ex]at hn ⊢;have N0:=hid (show zP (⟨#[105,110,116]⟩:ByteArray).data.toList (PR.ok () r)=false from hint);have N1:=hid (show zP (⟨#[98,111,111,108]⟩:ByteArray).data.toList (PR.ok () r)=false from hbool);have Y0:=hid (show zP (⟨#[105,102]⟩:ByteArray).data.toList (PR.ok () r)=true from hif);have HN:=hid (qA hn);have HN2:=hid (zp hn);have HB:=hid hB
 have hiu:zP (⟨#[101,108,115,101]⟩:ByteArray).data.toList (((PR.ok () r.tail).bind fun _ r=>pI n r).un.bind fun _ r=>pB n (d+1) r).un=false:=by
  rw[←qp (F:=fun e t=>(e,t))];revert hel;cases(q9 ((PR.ok () r.tail).bind fun _ r=>pI n r) (fun r=>pB n (d+1) r) fun e t=>(e,t)) <;> exact id
 have HEL:=hid hiu;clear h hn ex hB hel hiu hint hbool hif;go_enter Tryz.func84,Tryz.ntmps84
 go_wp2_with (first
  | (go_at_call 67;(with_reducible refine(qo HC.out.st _ false N0.out).mono ?_);rintro e w1 ⟨rfl,hD⟩;replace HC:=hid (HC.out.step hD);clear hD)
  | (go_at_call 67;(with_reducible refine(qo HC.out.st _ false N1.out).mono ?_);rintro e w1 ⟨rfl,hD⟩;replace HC:=hid (HC.out.step hD);clear hD)
  | (go_at_call 42;(with_reducible refine(zb HC.out.st _ Y0.out).mono ?_);rintro e w1 ⟨rfl,hD⟩
     replace HC:=hid (show kC b V all w (.ok () r.tail) w1 _ _ _ _ _ _ from HC.out.step hD);clear hD;obtain⟨⟨c0,c1,c2,c3,c4,c5⟩,fz⟩:=HC.out.own
     obtain⟨⟨s0,s1,s2,s3,s4,s5⟩,sz⟩:=HC.out.s)
  | (go_at_call 98;(with_reducible refine(yg HC.out.st HN2.out).mono ?_);rintro e w2 ⟨v,rfl,hD,hG⟩
     obtain⟨k5,k6,k7,rfl⟩:=uw hG HN2.out;have HF:=hid (show qn _ fun a=>zU (w.heap.size+2) w2 [a] (.slice k5 k6 k7) from hG.imp fun a ha=>zU.keep ha (zD.refl _ _) (by have:=HC.out.size;simp at this ⊢;omega));replace HC:=hid (HC.out.step hD);clear hD hG;obtain⟨⟨c0,c1,c2,c3,c4,c5⟩,fz⟩:=HC.out.own
     obtain⟨⟨s0,s1,s2,s3,s4,s5⟩,sz⟩:=HC.out.s)
  | (go_at_call 68;(with_reducible refine(HB.out.call ((HC.out.set0 (.int .i64 4)).set3 (.slice k5 k6 k7)).st HN.out).mono ?_);rintro e w3 ⟨v,rfl,hD,hG⟩
     obtain⟨A4,m4,q4,rfl⟩:=kB hG HN.out;have HS:=hid (show qn _ fun a=>zT (w.heap.size+2) w3 a _ from hG.imp fun a ha=>zT.keep ha (zD.refl _ _) (by have:=HC.out.size;simp at this ⊢;omega));have HK:=hid (((zD.set (L:=w.heap.size+2) (g:=w.heap.size+1) (by omega) 0 (.int .i64 4)).trans (zD.set (g:=w.heap.size+1) (by omega) 3 (.slice k5 k6 k7))).trans (zD.did hD (by omega)));replace HC:=hid (((HC.out.set0 (.int .i64 4)).set3 (.slice k5 k6 k7)).step hD);clear hD hG;obtain⟨⟨c0,c1,c2,c3,c4,c5⟩,fz⟩:=HC.out.own
     obtain⟨⟨s0,s1,s2,s3,s4,s5⟩,sz⟩:=HC.out.s)
  | (go_at_call 42;(with_reducible refine(zF (HC.out.set4 (.slice A4 m4 q4)).st _ HEL.out).mono ?_);rintro e w4 ⟨rfl,hD⟩
     have HK4:=hid ((zD.set (L:=w.heap.size+2) (w:=w3) (g:=w.heap.size+1) (by omega) 4 (.slice A4 m4 q4)).trans (zD.did hD (by omega)));replace HC:=hid ((HC.out.set4 (.slice A4 m4 q4)).step hD);clear hD;obtain⟨⟨c0,c1,c2,c3,c4,c5⟩,fz⟩:=HC.out.own
     obtain⟨⟨s0,s1,s2,s3,s4,s5⟩,sz⟩:=HC.out.s))
 obtain⟨f0,f1,f2,f3,f4,f5⟩:=HC.out.1.read (.int .i64 4) (.int .i64 0) (.string ⟨#[]⟩) (.slice k5 k6 k7) (.slice A4 m4 q4) (.slice none 0 0);refine bodyPost_ret (v:=.agg #[.int .i64 4,.int .i64 0,.string ⟨#[]⟩,.slice k5 k6 k7,.slice A4 m4 q4,.slice none 0 0]) (by simp[results,Tryz.results84,go_sem,f0,f1,f2,f3,f4,f5]) rfl ?_;have hk:=HK4.out.trans (zD.nest6 (g:=w.heap.size) (by omega) (.int .i64 4) (.int .i64 0) (.string ⟨#[]⟩) (.slice k5 k6 k7) (.slice A4 m4 q4) (.slice none 0 0));refine HC.out.fin (qp _ _ _) (qU HF.out HS.out HN.out fun e t he ht=>?_);exact⟨_,_,_,rfl,zU.keep he (HK.out.trans hk) (by omega),zT.keep ht hk (by omega),qM _ _⟩
theorem stmt_else {b:Nat} {V:Value} {all r:List Tok} {w:World} {n:Nat} {d:Int} {q:Nat} {p:Ex × List St} {r2:List Tok} (hnq:n=q+1) (hB:CB b V all n (d+1)) (hB2:CB b V all q (d+1)) (h:zS b V all r false false w) (hd:0≤d∧d≤100) (hint:z6 uK r=false) (hbool:z6 kH r=false) (hif:z6 sIf r=true) (hA:(q9 ((PR.ok () r.tail).bind fun _ r=>pI n r) (fun r=>pB n (d+1) r) fun e t=>(e,t))=.ok p r2) (hel:z6 sElse r2=true) (hn:zG (pS (n+1) d r)):
 Calls Tryz.prog 84 #[.pointer (some ⟨b,0,none⟩),.int .i64 d] w (qF b V all w (pS (n+1) d r) (yI w.heap.size)):=by
 obtain⟨hd0,hd1⟩:=hd;have HC:=hid (kC.start (x:=.ok () r) h);have hbw:=h.lt;have hdd:¬ 100<d:=by omega
 have ex:pS (n+1) d r=(pB q (d+1) r2.tail).bind fun u r=>.ok (St.mk 4 0 bE [p.1] p.2 u) r:=by
  have h0:pS (n+1) d r=(q9 ((PR.ok () r.tail).bind fun _ r=>pI n r) (fun r=>pB n (d+1) r) fun e t=>(e,t)).bind fun p r=>pEl n d p.1 p.2 r:=by rw[pS,if_neg (by omega),if_neg (by rw[hint,hbool];decide),if_pos hif,if_split]
  rw[h0,hA,hnq];show pEl (q+1) d p.1 p.2 r2=_;rw[pEl,if_pos hel]
 rw[ex]at hn ⊢;have N0:=hid (show zP (⟨#[105,110,116]⟩:ByteArray).data.toList (PR.ok () r)=false from hint);have N1:=hid (show zP (⟨#[98,111,111,108]⟩:ByteArray).data.toList (PR.ok () r)=false from hbool);have Y0:=hid (show zP (⟨#[105,102]⟩:ByteArray).data.toList (PR.ok () r)=true from hif);have hAE:zG (q9 ((PR.ok () r.tail).bind fun _ r=>pI n r) (fun r=>pB n (d+1) r) fun e t=>(e,t)):=by rw[hA];trivial
 have HN:=hid (qA hAE);have HN2:=hid (zp hAE);have HN5:=hid (show zG ((PR.ok () r2.tail).bind fun _ r=>pB q (d+1) r) from zo hn);have HB:=hid hB;have HB2:=hid hB2;have HA:=hid hA;have HEQ:=hid (show (((PR.ok () r.tail).bind fun _ r=>pI n r).un.bind fun _ r=>pB n (d+1) r).un=.ok () r2 by rw[←qp (F:=fun e t=>(e,t)),hA];rfl);have HEL:=hid (show zP (⟨#[101,108,115,101]⟩:ByteArray).data.toList (PR.ok () r2)=true from hel);clear h hn ex hB hB2 hel hA hAE hint hbool hif;go_enter Tryz.func84,Tryz.ntmps84
 go_wp2_with (first
  | (go_at_call 67;(with_reducible refine(qo HC.out.st _ false N0.out).mono ?_);rintro e w1 ⟨rfl,hD⟩;replace HC:=hid (HC.out.step hD);clear hD)
  | (go_at_call 67;(with_reducible refine(qo HC.out.st _ false N1.out).mono ?_);rintro e w1 ⟨rfl,hD⟩;replace HC:=hid (HC.out.step hD);clear hD)
  | (go_at_call 42;(with_reducible refine(zb HC.out.st _ Y0.out).mono ?_);rintro e w1 ⟨rfl,hD⟩
     replace HC:=hid (show kC b V all w (.ok () r.tail) w1 _ _ _ _ _ _ from HC.out.step hD);clear hD;obtain⟨⟨c0,c1,c2,c3,c4,c5⟩,fz⟩:=HC.out.own
     obtain⟨⟨s0,s1,s2,s3,s4,s5⟩,sz⟩:=HC.out.s)
  | (go_at_call 98;(with_reducible refine(yg HC.out.st HN2.out).mono ?_);rintro e w2 ⟨v,rfl,hD,hG⟩
     obtain⟨k5,k6,k7,rfl⟩:=uw hG HN2.out;have HF:=hid (show qn _ fun a=>zU (w.heap.size+2) w2 [a] (.slice k5 k6 k7) from hG.imp fun a ha=>zU.keep ha (zD.refl _ _) (by have:=HC.out.size;simp at this ⊢;omega));replace HC:=hid (HC.out.step hD);clear hD hG;obtain⟨⟨c0,c1,c2,c3,c4,c5⟩,fz⟩:=HC.out.own
     obtain⟨⟨s0,s1,s2,s3,s4,s5⟩,sz⟩:=HC.out.s)
  | (go_at_call 68;(with_reducible refine(HB.out.call ((HC.out.set0 (.int .i64 4)).set3 (.slice k5 k6 k7)).st HN.out).mono ?_);rintro e w3 ⟨v,rfl,hD,hG⟩
     obtain⟨A4,m4,q4,rfl⟩:=kB hG HN.out;have HS:=hid (show qn _ fun a=>zT (w.heap.size+2) w3 a _ from hG.imp fun a ha=>zT.keep ha (zD.refl _ _) (by have:=HC.out.size;simp at this ⊢;omega));have HK:=hid (((zD.set (L:=w.heap.size+2) (g:=w.heap.size+1) (by omega) 0 (.int .i64 4)).trans (zD.set (g:=w.heap.size+1) (by omega) 3 (.slice k5 k6 k7))).trans (zD.did hD (by omega)));replace HC:=hid (show kC b V all w (.ok () r2) w3 _ _ _ _ _ _ by have h9:=((HC.out.set0 (.int .i64 4)).set3 (.slice k5 k6 k7)).step hD;rw[HEQ.out]at h9;exact h9);clear hD hG;obtain⟨⟨c0,c1,c2,c3,c4,c5⟩,fz⟩:=HC.out.own
     obtain⟨⟨s0,s1,s2,s3,s4,s5⟩,sz⟩:=HC.out.s)
  | (go_at_call 42;(with_reducible refine(zb (HC.out.set4 (.slice A4 m4 q4)).st _ HEL.out).mono ?_);rintro e w4 ⟨rfl,hD⟩
     have HK4:=hid ((zD.set (L:=w.heap.size+2) (w:=w3) (g:=w.heap.size+1) (by omega) 4 (.slice A4 m4 q4)).trans (zD.did hD (by omega)));replace HC:=hid (show kC b V all w (.ok () r2.tail) w4 _ _ _ _ _ _ from(HC.out.set4 (.slice A4 m4 q4)).step hD);clear hD;obtain⟨⟨c0,c1,c2,c3,c4,c5⟩,fz⟩:=HC.out.own
     obtain⟨⟨s0,s1,s2,s3,s4,s5⟩,sz⟩:=HC.out.s)
  | (go_at_call 68;(with_reducible refine(HB2.out.call HC.out.st HN5.out).mono ?_);rintro e w5 ⟨v,rfl,hD,hG⟩
     obtain⟨A5,m5,q5,rfl⟩:=kB hG HN5.out;have HS5:=hid (show qn _ fun a=>zT (w.heap.size+2) w5 a _ from hG.imp fun a ha=>zT.keep ha (zD.refl _ _) (by have:=HC.out.size;simp at this ⊢;omega));have HK5:=hid (HK4.out.trans (zD.did hD (by omega)));replace HC:=hid (HC.out.step hD);clear hD hG;obtain⟨⟨c0,c1,c2,c3,c4,c5⟩,fz⟩:=HC.out.own
     obtain⟨⟨s0,s1,s2,s3,s4,s5⟩,sz⟩:=HC.out.s))
 have HC2:=hid (HC.out.set5 (.slice A5 m5 q5));obtain⟨f0,f1,f2,f3,f4,f5⟩:=HC2.out.1.read (.int .i64 4) (.int .i64 0) (.string ⟨#[]⟩) (.slice k5 k6 k7) (.slice A4 m4 q4) (.slice A5 m5 q5);refine bodyPost_ret (v:=.agg #[.int .i64 4,.int .i64 0,.string ⟨#[]⟩,.slice k5 k6 k7,.slice A4 m4 q4,.slice A5 m5 q5]) (by simp[results,Tryz.results84,go_sem,f0,f1,f2,f3,f4,f5]) rfl ?_;have hk:=(zD.set (L:=w.heap.size+2) (w:=w5) (g:=w.heap.size+1) (by omega) 5 (.slice A5 m5 q5)).trans (zD.nest6 (g:=w.heap.size) (by omega) (.int .i64 4) (.int .i64 0) (.string ⟨#[]⟩) (.slice k5 k6 k7) (.slice A4 m4 q4) (.slice A5 m5 q5));have hp:=qU (F:=fun e t=>(e,t)) (Q:=fun p:Ex × List St=>zU (w.heap.size+2) w2 [p.1] (.slice k5 k6 k7)∧zT (w.heap.size+2) w3 p.2 (.slice A4 m4 q4)) HF.out HS.out HN.out fun e t he ht=>⟨he,ht⟩
 rw[HA.out]at hp;obtain⟨he,ht⟩:=hp;refine HC2.out.fin (by rw[qr];rfl) (qn.bind HS5.out (fun u r _ hu=>?_) fun u hu=>⟨St.mk 4 0 bE [p.1] p.2 u,?_⟩)
 all_goals exact⟨_,_,_,rfl,zU.keep he (HK.out.trans (HK5.out.trans hk)) (by omega),zT.keep ht (HK5.out.trans hk) (by omega),zT.keep hu hk (by omega)⟩
theorem kC.deepen {b:Nat} {V:Value} {all r:List Tok} {w:World} (h:zS b V all r false false w):kC b V all w (.deep r) (((w.setCell ⟨b,3,none⟩ (.bool true)).alloc yT).alloc yT) (.int .i64 0) (.int .i64 0) (.string ⟨#[]⟩) (.slice none 0 0) (.slice none 0 0) (.slice none 0 0):=by
 have hd:qY b V all w (.deep r) (w.setCell ⟨b,3,none⟩ (.bool true)):=⟨h.deepen,(OffB.refl b _ _).setb h.lt 3 _⟩
 refine⟨⟨(hd.alloc _).alloc _,?_,h.2.1,h.lt⟩,?_⟩
 · refine zc ?_ _
   have:=heap_alloc_new (w.setCell ⟨b,3,none⟩ (.bool true)) yT;rw[ji]at this;exact this
 · have:=heap_alloc_new ((w.setCell ⟨b,3,none⟩ (.bool true)).alloc yT) yT
   rw[zA,ji]at this;exact this
theorem stmt_deep {b:Nat} {V:Value} {all r:List Tok} {w:World} {n:Nat} {d:Int} (h:zS b V all r false false w) (hd:0≤d∧d≤1000) (hd2:100<d) (hn:zG (pS (n+1) d r)):
 Calls Tryz.prog 84 #[.pointer (some ⟨b,0,none⟩),.int .i64 d] w (qF b V all w (pS (n+1) d r) (yI w.heap.size)):=by
 have ex:pS (n+1) d r=.deep r:=by rw[pS,if_pos hd2]
 rw[ex];have f3:=h.1.frozen 3;obtain⟨_,_,b2,b3⟩:=h.cells;have hbw:=h.lt;have HC:=hid (kC.deepen h);clear h hn ex;have N0:=hid (show zP (⟨#[105,110,116]⟩:ByteArray).data.toList (PR.deep r:PR Unit)=false from rfl);have N1:=hid (show zP (⟨#[98,111,111,108]⟩:ByteArray).data.toList (PR.deep r:PR Unit)=false from rfl);have N2:=hid (show zP (⟨#[105,102]⟩:ByteArray).data.toList (PR.deep r:PR Unit)=false from rfl);have N3:=hid (show zP (⟨#[119,104,105,108,101]⟩:ByteArray).data.toList (PR.deep r:PR Unit)=false from rfl);have N4:=hid (show zP (⟨#[98,114,101,97,107]⟩:ByteArray).data.toList (PR.deep r:PR Unit)=false from rfl);have N5:=hid (show zP (⟨#[99,111,110,116,105,110,117,101]⟩:ByteArray).data.toList (PR.deep r:PR Unit)=false from rfl);have N6:=hid (show zP (⟨#[114,101,116,117,114,110]⟩:ByteArray).data.toList (PR.deep r:PR Unit)=false from rfl);have N7:=hid (show zP (⟨#[112,114,105,110,116]⟩:ByteArray).data.toList (PR.deep r:PR Unit)=false from rfl);have HN2:=hid (show zG ((PR.deep r:PR Unit).bind fun _ r=>pNm 0 r) from trivial);go_enter Tryz.func84,Tryz.ntmps84
 go_wp2_with (first
  | (go_at_call 67;(with_reducible refine(qo HC.out.st _ false N0.out).mono ?_);rintro e w1 ⟨rfl,hD⟩;replace HC:=hid (HC.out.step hD);clear hD)
  | (go_at_call 67;(with_reducible refine(qo HC.out.st _ false N1.out).mono ?_);rintro e w1 ⟨rfl,hD⟩;replace HC:=hid (HC.out.step hD);clear hD)
  | (go_at_call 42;(with_reducible refine(zF HC.out.st _ N2.out).mono ?_);rintro e w1 ⟨rfl,hD⟩
     replace HC:=hid (HC.out.step hD);clear hD;obtain⟨⟨c0,c1,c2,c3,c4,c5⟩,fz⟩:=HC.out.own
     obtain⟨⟨s0,s1,s2,s3,s4,s5⟩,sz⟩:=HC.out.s)
  | (go_at_call 42;(with_reducible refine(zF HC.out.st _ N3.out).mono ?_);rintro e w1 ⟨rfl,hD⟩
     replace HC:=hid (HC.out.step hD);clear hD;obtain⟨⟨c0,c1,c2,c3,c4,c5⟩,fz⟩:=HC.out.own
     obtain⟨⟨s0,s1,s2,s3,s4,s5⟩,sz⟩:=HC.out.s)
  | (go_at_call 42;(with_reducible refine(zF HC.out.st _ N4.out).mono ?_);rintro e w1 ⟨rfl,hD⟩
     replace HC:=hid (HC.out.step hD);clear hD;obtain⟨⟨c0,c1,c2,c3,c4,c5⟩,fz⟩:=HC.out.own
     obtain⟨⟨s0,s1,s2,s3,s4,s5⟩,sz⟩:=HC.out.s)
  | (go_at_call 42;(with_reducible refine(zF HC.out.st _ N5.out).mono ?_);rintro e w1 ⟨rfl,hD⟩
     replace HC:=hid (HC.out.step hD);clear hD;obtain⟨⟨c0,c1,c2,c3,c4,c5⟩,fz⟩:=HC.out.own
     obtain⟨⟨s0,s1,s2,s3,s4,s5⟩,sz⟩:=HC.out.s)
  | (go_at_call 42;(with_reducible refine(zF HC.out.st _ N6.out).mono ?_);rintro e w1 ⟨rfl,hD⟩
     replace HC:=hid (HC.out.step hD);clear hD;obtain⟨⟨c0,c1,c2,c3,c4,c5⟩,fz⟩:=HC.out.own
     obtain⟨⟨s0,s1,s2,s3,s4,s5⟩,sz⟩:=HC.out.s)
  | (go_at_call 42;(with_reducible refine(zF HC.out.st _ N7.out).mono ?_);rintro e w1 ⟨rfl,hD⟩
     replace HC:=hid (HC.out.step hD);clear hD;obtain⟨⟨c0,c1,c2,c3,c4,c5⟩,fz⟩:=HC.out.own
     obtain⟨⟨s0,s1,s2,s3,s4,s5⟩,sz⟩:=HC.out.s)
  | (go_at_call 99;(with_reducible refine(named_any HC.out.st HN2.out).mono ?_);rintro e w2 ⟨v,rfl,hD,hG⟩
     obtain⟨k0,k1,k2,A3,m3,q3,A4,m4,q4,A5,m5,q5,rfl⟩:=gots_form hG HN2.out;have HF:=hid (show ∃ a,yI (w.heap.size+2) w2 a _ by obtain⟨a,ha⟩:=hG;exact⟨a,yI.keep ha (zD.refl _ _) (by have:=HC.out.size;simp at this ⊢;omega)⟩);replace HC:=hid (show kC b V all w (.deep r) w2 _ _ _ _ _ _ from HC.out.step hD);clear hD hG;obtain⟨⟨c0,c1,c2,c3,c4,c5⟩,fz⟩:=HC.out.own
     obtain⟨⟨s0,s1,s2,s3,s4,s5⟩,sz⟩:=HC.out.s)
  | (go_at_call 44;(with_reducible refine(zW ((((((HC.out.set0 (.int .i64 k0)).set1 (.int .i64 k1)).set2 (.string k2)).set3 (.slice A3 m3 q3)).set4 (.slice A4 m4 q4)).set5 (.slice A5 m5 q5)).st ⟨#[59]⟩).mono ?_);rintro e w9 ⟨rfl,hD⟩
     have HK:=hid ((zD.nest6 (L:=w.heap.size+2) (g:=w.heap.size+1) (by omega) (.int .i64 k0) (.int .i64 k1) (.string k2) (.slice A3 m3 q3) (.slice A4 m4 q4) (.slice A5 m5 q5)).trans (zD.did hD (by omega)));replace HC:=hid (((((((HC.out.set0 (.int .i64 k0)).set1 (.int .i64 k1)).set2 (.string k2)).set3 (.slice A3 m3 q3)).set4 (.slice A4 m4 q4)).set5 (.slice A5 m5 q5)).step hD);have hz9:=HC.out.size;clear hD;obtain⟨⟨c0,c1,c2,c3,c4,c5⟩,fz⟩:=HC.out.own
     obtain⟨⟨s0,s1,s2,s3,s4,s5⟩,sz⟩:=HC.out.s))
 obtain⟨f0,f1,f2,f3,f4,f5⟩:=HC.out.1.read (.int .i64 k0) (.int .i64 k1) (.string k2) (.slice A3 m3 q3) (.slice A4 m4 q4) (.slice A5 m5 q5);refine bodyPost_ret (v:=.agg #[.int .i64 k0,.int .i64 k1,.string k2,.slice A3 m3 q3,.slice A4 m4 q4,.slice A5 m5 q5]) (by simp[results,Tryz.results84,go_sem,f0,f1,f2,f3,f4,f5]) rfl ?_;refine HC.out.fin rfl ?_;obtain⟨a,ha⟩:=HF.out;exact⟨a,yI.keep ha (HK.out.trans (zD.nest6 (by omega) _ _ _ _ _ _)) (by omega)⟩
theorem pstmt_any {b:Nat} {V:Value} {all r:List Tok} {w:World} {n:Nat} {d:Int} (hB:d≤100→∀ m,m≤n→CB b V all m (d+1)) (h:zS b V all r false false w) (hd:0≤d∧d≤1000) (hn:zG (pS (n+1) d r)):
 Calls Tryz.prog 84 #[.pointer (some ⟨b,0,none⟩),.int .i64 d] w (qF b V all w (pS (n+1) d r) (yI w.heap.size)):=by
 by_cases hd2:d≤100
 · have hd':0≤d∧d≤100:=⟨hd.1,hd2⟩
   have hBn:=hB hd2 n Zr;cases h0:z6 uK r with
   | true=>exact stmt_int h hd' h0 hn
   | false=>
     cases h1:z6 kH r with
     | true=>exact stmt_bool h hd' h0 h1 hn
     | false=>
       cases h2:z6 sIf r with
       | true=>
         cases hA:(q9 ((PR.ok () r.tail).bind fun _ r=>pI n r) (fun r=>pB n (d+1) r) fun e t=>(e,t)) with
         | ok p r2=>
           cases hel:z6 sElse r2 with
           | true=>
             cases n with
             | zero=>
               rw[pS,if_neg (by omega),if_neg (by rw[h0,h1];decide),if_pos h2,if_split,hA]at hn;exact absurd (show zG (pEl 0 d p.1 p.2 r2) from hn) (by rw[pEl];exact id)
             | succ q=>exact stmt_else rfl hBn (hB hd2 q (by omega)) h hd' h0 h1 h2 hA hel hn
           | false=>exact uy hBn h hd' h0 h1 h2 (by rw[hA];exact hel) hn
         | bad r2=>exact uy hBn h hd' h0 h1 h2 (by rw[hA];rfl) hn
         | deep r2=>exact uy hBn h hd' h0 h1 h2 (by rw[hA];rfl) hn
         | out=>exact uy hBn h hd' h0 h1 h2 (by rw[hA];rfl) hn
       | false=>
         cases h3:z6 vB r with
         | true=>exact pstmt_while hBn h hd' h0 h1 h2 h3 hn
         | false=>
           cases h4:z6 uL r with
           | true=>exact pstmt_break h hd' h0 h1 h2 h3 h4 hn
           | false=>
             cases h5:z6 sCont r with
             | true=>exact stmt_continue h hd' h0 h1 h2 h3 h4 h5 hn
             | false=>
               cases h6:z6 sRet r with
               | true=>exact pstmt_return h hd' h0 h1 h2 h3 h4 h5 h6 hn
               | false=>
                 cases h7:z6 sPrint r with
                 | true=>exact pstmt_print h hd' h0 h1 h2 h3 h4 h5 h6 h7 hn
                 | false=>exact stmt_name h hd' h0 h1 h2 h3 h4 h5 h6 h7 hn
 · exact stmt_deep h hd (by omega) hn
end Go.Proofs.YtfghofifjnbicaaGreatDoor
