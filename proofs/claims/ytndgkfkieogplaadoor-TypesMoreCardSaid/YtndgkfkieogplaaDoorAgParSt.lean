import Derived.Test.YtndgkfkieogplaaDoorAgParEx
set_option linter.unusedSimpArgs false
set_option linter.unusedVariables false
set_option maxRecDepth 100000
/- The document's parser: statements. (By tools/gen_parst.py.) -/
namespace Go.Proofs.YtndgkfkieogplaaDoor
open Lib (hid)
open Go.RowKit
def ql {α β γ:Type} (A:PR α) (k:List Tok→PR β) (F:α→β→γ):PR γ:=A.bind fun a r=>(k r).bind fun b r=>.ok (F a b) r
theorem jN {α β γ:Type} (A:PR α) (k:List Tok→PR β) (F:α→β→γ):(ql A k F).un=(A.un.bind fun _ r=>k r).un:=by
 cases A with
 | ok a r=>
   show ((k r).bind fun b r=>PR.ok (F a b) r).un=(k r).un
   rw[jP]
   rfl
 | _=>rfl
theorem q8 {α β γ:Type} {A:PR α} {k:List Tok→PR β} {F:α→β→γ} {P1:α→Prop} {P2:β→Prop} {Q:γ→Prop} (h1:jE A P1) (h2:jE (A.un.bind fun _ r=>k r) P2) (he:zG (A.un.bind fun _ r=>k r)) (hq:∀ a b,P1 a→P2 b→Q (F a b)):jE (ql A k F) Q:=by
 obtain⟨b0,hb0⟩:=h2.some he
 cases A with
 | ok a r=>
   have h3:jE ((k r).bind fun b r=>PR.ok (F a b) r) Q:=jE.bind (show jE (k r) P2 from h2) (fun b r _ hb=>hq a b h1 hb) fun b hb=>⟨_,hq a b h1 hb⟩
   exact h3
 | bad r=>obtain⟨a,ha⟩:=h1;exact⟨_,hq a b0 ha hb0⟩
 | deep r=>obtain⟨a,ha⟩:=h1;exact⟨_,hq a b0 ha hb0⟩
 | out=>trivial
theorem qG {α β γ:Type} {A:PR α} {k:List Tok→PR β} {F:α→β→γ} (h:zG (ql A k F)):zG (A.un.bind fun _ r=>k r):=by
 cases A with
 | ok a r=>exact zv (show zG ((k r).bind fun b r=>PR.ok (F a b) r) from h)
 | bad r=>trivial
 | deep r=>trivial
 | out=>exact h
theorem zx {α β γ:Type} {A:PR α} {k:List Tok→PR β} {F:α→β→γ} (h:zG (ql A k F)):zG A:=zv h
theorem ja {α γ:Type} (A:PR α) (t:List UInt8) (F:α→Unit→γ):(ql A (fun r=>zI t r) F).un=A.un.bind fun _ r=>zI t r:=by rw[jN,un_unit]
theorem one_form {L:Nat} {w:World} {x:PR Ex} {v:Value} (h:jE x fun a=>OneF L w a v) (he:zG x):∃ A m c,v=.slice A m c:=by
 obtain⟨a,ha⟩:=h.some he
 obtain⟨A,c,hv,_⟩:=jK.form ha
 exact⟨A,_,c,hv⟩
theorem int_form {w:World} {x:PR Int} {v:Value} (h:jE x fun a=>IntV w a v) (he:zG x):∃ t,v=.int .i64 t:=by
 obtain⟨a,ha⟩:=h.some he
 exact⟨a,ha⟩
theorem bind_ok' {α β:Type} (a:α) (r:List Tok) (f:α→List Tok→PR β):(PR.ok a r).bind f=f a r:=rfl
theorem yp {x:PR Unit} {s:List UInt8} (_h:zG (x.bind fun _ r=>zI s r)):jE (x.bind fun _ r=>zI s r) fun _=>True:=by
 cases hx:(x.bind fun _ r=>zI s r) with
 | ok a r=>trivial
 | bad r=>exact⟨(),trivial⟩
 | deep r=>exact⟨(),trivial⟩
 | out=>trivial
def CB (b:Nat) (V:Value) (all:List Tok) (n:Nat) (d:Int):Prop:=∀ (w:World) (x:PR Unit),jS b V all x w→zG (x.bind fun _ r=>pB n d r)→
 Calls Tryd.prog 60 #[.pointer (some ⟨b,0,none⟩),.int .i64 d] w (qM b V all w (x.bind fun _ r=>pB n d r) (xQ w.heap.size))
theorem CB.call {b:Nat} {V:Value} {all:List Tok} {n:Nat} {d:Int} (h:CB b V all n d) {w:World} {x:PR Unit} (hs:jS b V all x w) (he:zG (x.bind fun _ r=>pB n d r)):
 Calls Tryd.prog 60 #[.pointer (some ⟨b,0,none⟩),.int .i64 d] w (qM b V all w (x.bind fun _ r=>pB n d r) (xQ w.heap.size)):=h w x hs he
def kv (b:Nat) (V:Value) (all:List Tok) (w:World) (x:PR Unit) (W:World) (c0 c1 c2 c3 c4 c5:Value):Prop:=jF b V all w x W∧W.heap[w.heap.size+1]? =some (.cells #[c0,c1,c2,c3,c4,c5] 50 (0,0))
section
variable {b:Nat} {V:Value} {all:List Tok} {w W W':World} {x y:PR Unit} {c0 c1 c2 c3 c4 c5:Value}
theorem kv.start (h:jS b V all x w):kv b V all w x ((w.alloc vz).alloc vz) (.int .i64 0) (.int .i64 0) (.string ⟨#[]⟩) (.slice none 0 0) (.slice none 0 0) (.slice none 0 0):=
 ⟨(jF.start h).alloc vz,by have:=heap_alloc_new (w.alloc vz) vz;rw[zA]at this;exact this⟩
theorem kv.st (h:kv b V all w x W c0 c1 c2 c3 c4 c5):jS b V all x W:=h.1.st
theorem kv.size (h:kv b V all w x W c0 c1 c2 c3 c4 c5):w.heap.size+1<W.heap.size:=(Array.getElem?_eq_some_iff.1 h.2).1
theorem kv.ne (h:kv b V all w x W c0 c1 c2 c3 c4 c5):w.heap.size+1≠b:=by have:=h.1.lt;omega
theorem kv.lt (h:kv b V all w x W c0 c1 c2 c3 c4 c5):b<w.heap.size:=h.1.lt
theorem kv.step (h:kv b V all w x W c0 c1 c2 c3 c4 c5) (g:q7 b V all W y W'):kv b V all w y W' c0 c1 c2 c3 c4 c5:=⟨h.1.step g,qe g.off h.size h.ne h.2⟩
theorem kv.alloc (h:kv b V all w x W c0 c1 c2 c3 c4 c5) (o:Obj):kv b V all w x (W.alloc o) c0 c1 c2 c3 c4 c5:=⟨h.1.alloc o,jL h.2 o⟩
theorem kv.own (h:kv b V all w x W c0 c1 c2 c3 c4 c5):(W.cell? ⟨w.heap.size,0,none⟩=some (.int .i64 0)∧W.cell? ⟨w.heap.size,1,none⟩=some (.int .i64 0)∧W.cell? ⟨w.heap.size,2,none⟩=some (.string ⟨#[]⟩)∧
 W.cell? ⟨w.heap.size,3,none⟩=some (.slice none 0 0)∧W.cell? ⟨w.heap.size,4,none⟩=some (.slice none 0 0)∧W.cell? ⟨w.heap.size,5,none⟩=some (.slice none 0 0))∧∀ o,W.frozen? ⟨w.heap.size,o,none⟩=false:=h.1.own
theorem kv.s (h:kv b V all w x W c0 c1 c2 c3 c4 c5):(W.cell? ⟨w.heap.size+1,0,none⟩=some c0∧W.cell? ⟨w.heap.size+1,1,none⟩=some c1∧W.cell? ⟨w.heap.size+1,2,none⟩=some c2∧W.cell? ⟨w.heap.size+1,3,none⟩=some c3∧W.cell? ⟨w.heap.size+1,4,none⟩=some c4∧W.cell? ⟨w.heap.size+1,5,none⟩=some c5)∧∀ o,W.frozen? ⟨w.heap.size+1,o,none⟩=false:=six_cells h.2
theorem kv.set0 (h:kv b V all w x W c0 c1 c2 c3 c4 c5) (u:Value):kv b V all w x (W.setCell ⟨w.heap.size+1,0,none⟩ u) u c1 c2 c3 c4 c5:=⟨h.1.set (by omega) 0 u,Lib.heap_setCell_same h.2 u⟩
theorem kv.set1 (h:kv b V all w x W c0 c1 c2 c3 c4 c5) (u:Value):kv b V all w x (W.setCell ⟨w.heap.size+1,1,none⟩ u) c0 u c2 c3 c4 c5:=⟨h.1.set (by omega) 1 u,Lib.heap_setCell_same h.2 u⟩
theorem kv.set2 (h:kv b V all w x W c0 c1 c2 c3 c4 c5) (u:Value):kv b V all w x (W.setCell ⟨w.heap.size+1,2,none⟩ u) c0 c1 u c3 c4 c5:=⟨h.1.set (by omega) 2 u,Lib.heap_setCell_same h.2 u⟩
theorem kv.set3 (h:kv b V all w x W c0 c1 c2 c3 c4 c5) (u:Value):kv b V all w x (W.setCell ⟨w.heap.size+1,3,none⟩ u) c0 c1 c2 u c4 c5:=⟨h.1.set (by omega) 3 u,Lib.heap_setCell_same h.2 u⟩
theorem kv.set4 (h:kv b V all w x W c0 c1 c2 c3 c4 c5) (u:Value):kv b V all w x (W.setCell ⟨w.heap.size+1,4,none⟩ u) c0 c1 c2 c3 u c5:=⟨h.1.set (by omega) 4 u,Lib.heap_setCell_same h.2 u⟩
theorem kv.set5 (h:kv b V all w x W c0 c1 c2 c3 c4 c5) (u:Value):kv b V all w x (W.setCell ⟨w.heap.size+1,5,none⟩ u) c0 c1 c2 c3 c4 u:=⟨h.1.set (by omega) 5 u,Lib.heap_setCell_same h.2 u⟩
theorem kv.fin (h:kv b V all w y W c0 c1 c2 c3 c4 c5) {X:PR St} (hy:X.un=y) (hG:jE X fun a=>u7 w.heap.size (u9 W w.heap.size c0 c1 c2 c3 c4 c5) a (.agg #[c0,c1,c2,c3,c4,c5])):
 qM b V all w X (u7 w.heap.size) (.returned (.agg #[c0,c1,c2,c3,c4,c5])) (u9 W w.heap.size c0 c1 c2 c3 c4 c5):=h.1.fin hy hG
end
theorem pstmt_break {b:Nat} {V:Value} {all r:List Tok} {w:World} {n:Nat} {d:Int} (h:zY b V all r false false w) (hd:0≤d∧d≤100) (hint:z9 x8 r=false) (hbool:z9 jf r=false) (hif:z9 sIf r=false) (hwhile:z9 kH r=false) (hbreak:z9 xd r=true) (hn:zG (pS (n+1) d r)):
 Calls Tryd.prog 70 #[.pointer (some ⟨b,0,none⟩),.int .i64 d] w (qM b V all w (pS (n+1) d r) (u7 w.heap.size)):=by
 obtain⟨hd0,hd1⟩:=hd
 have HC:=hid (kv.start (x:=.ok () r) h)
 have hbw:=h.lt
 have hdd:¬ 100<d:=by omega
 have ex:pS (n+1) d r=ql (PR.ok (St.mk 6 0 bE [] [] []) r.tail) (fun r=>zI [59] r) fun a _=>a:=by rw[pS,if_neg (by omega),if_neg (by rw[hint,hbool];decide),if_neg (by rw[hif];decide),if_neg (by rw[hwhile];decide),if_pos hbreak];rfl
 rw[ex]at hn ⊢
 have N0:=hid (show zS (⟨#[105,110,116]⟩:ByteArray).data.toList (PR.ok () r)=false from hint)
 have N1:=hid (show zS (⟨#[98,111,111,108]⟩:ByteArray).data.toList (PR.ok () r)=false from hbool)
 have N2:=hid (show zS (⟨#[105,102]⟩:ByteArray).data.toList (PR.ok () r)=false from hif)
 have N3:=hid (show zS (⟨#[119,104,105,108,101]⟩:ByteArray).data.toList (PR.ok () r)=false from hwhile)
 have Y0:=hid (show zS (⟨#[98,114,101,97,107]⟩:ByteArray).data.toList (PR.ok () r)=true from hbreak)
 have HN:=hid (qG hn)
 clear h hn ex hint hbool hif hwhile hbreak
 go_enter Tryd.func70,Tryd.ntmps70
 go_wp2_with (first
  | (go_at_call 59;(with_reducible refine(jM HC.out.st _ false N0.out).mono ?_);rintro e w1 ⟨rfl,hD⟩;replace HC:=hid (HC.out.step hD);clear hD)
  | (go_at_call 59;(with_reducible refine(jM HC.out.st _ false N1.out).mono ?_);rintro e w1 ⟨rfl,hD⟩;replace HC:=hid (HC.out.step hD);clear hD)
  | (go_at_call 43;(with_reducible refine(zF HC.out.st _ N2.out).mono ?_);rintro e w1 ⟨rfl,hD⟩
     replace HC:=hid (HC.out.step hD)
     clear hD
     obtain⟨⟨c0,c1,c2,c3,c4,c5⟩,fz⟩:=HC.out.own
     obtain⟨⟨s0,s1,s2,s3,s4,s5⟩,sz⟩:=HC.out.s)
  | (go_at_call 43;(with_reducible refine(zF HC.out.st _ N3.out).mono ?_);rintro e w1 ⟨rfl,hD⟩
     replace HC:=hid (HC.out.step hD)
     clear hD
     obtain⟨⟨c0,c1,c2,c3,c4,c5⟩,fz⟩:=HC.out.own
     obtain⟨⟨s0,s1,s2,s3,s4,s5⟩,sz⟩:=HC.out.s)
  | (go_at_call 43;(with_reducible refine(zl HC.out.st _ Y0.out).mono ?_);rintro e w1 ⟨rfl,hD⟩
     replace HC:=hid (show kv b V all w (.ok () r.tail) w1 _ _ _ _ _ _ from HC.out.step hD)
     clear hD
     obtain⟨⟨c0,c1,c2,c3,c4,c5⟩,fz⟩:=HC.out.own
     obtain⟨⟨s0,s1,s2,s3,s4,s5⟩,sz⟩:=HC.out.s)
  | (go_at_call 45;(with_reducible refine(zb (HC.out.set0 (.int .i64 6)).st ⟨#[59]⟩).mono ?_);rintro e w9 ⟨rfl,hD⟩
     replace HC:=hid ((HC.out.set0 (.int .i64 6)).step hD)
     have hz9:=HC.out.size
     clear hD
     obtain⟨⟨c0,c1,c2,c3,c4,c5⟩,fz⟩:=HC.out.own
     obtain⟨⟨s0,s1,s2,s3,s4,s5⟩,sz⟩:=HC.out.s))
 obtain⟨f0,f1,f2,f3,f4,f5⟩:=HC.out.1.read (.int .i64 6) (.int .i64 0) (.string ⟨#[]⟩) (.slice none 0 0) (.slice none 0 0) (.slice none 0 0)
 refine bodyPost_ret (v:=.agg #[.int .i64 6,.int .i64 0,.string ⟨#[]⟩,.slice none 0 0,.slice none 0 0,.slice none 0 0]) (by simp[results,Tryd.results70,go_sem,f0,f1,f2,f3,f4,f5]) rfl ?_
 refine HC.out.fin (ja _ _ _) ?_
 exact q8 (P1:=fun a=>a=St.mk 6 0 bE [] [] []) rfl (yp (x:=.ok () r.tail) HN.out) HN.out fun a _ ha _=>by subst ha;exact⟨_,_,_,rfl,frEs_nil _ _,qV _ _,qV _ _⟩
theorem stmt_continue {b:Nat} {V:Value} {all r:List Tok} {w:World} {n:Nat} {d:Int} (h:zY b V all r false false w) (hd:0≤d∧d≤100) (hint:z9 x8 r=false) (hbool:z9 jf r=false) (hif:z9 sIf r=false) (hwhile:z9 kH r=false) (hbreak:z9 xd r=false) (hcontinue:z9 u6 r=true) (hn:zG (pS (n+1) d r)):
 Calls Tryd.prog 70 #[.pointer (some ⟨b,0,none⟩),.int .i64 d] w (qM b V all w (pS (n+1) d r) (u7 w.heap.size)):=by
 obtain⟨hd0,hd1⟩:=hd
 have HC:=hid (kv.start (x:=.ok () r) h)
 have hbw:=h.lt
 have hdd:¬ 100<d:=by omega
 have ex:pS (n+1) d r=ql (PR.ok (St.mk 7 0 bE [] [] []) r.tail) (fun r=>zI [59] r) fun a _=>a:=by rw[pS,if_neg (by omega),if_neg (by rw[hint,hbool];decide),if_neg (by rw[hif];decide),if_neg (by rw[hwhile];decide),if_neg (by rw[hbreak];decide),if_pos hcontinue];rfl
 rw[ex]at hn ⊢
 have N0:=hid (show zS (⟨#[105,110,116]⟩:ByteArray).data.toList (PR.ok () r)=false from hint)
 have N1:=hid (show zS (⟨#[98,111,111,108]⟩:ByteArray).data.toList (PR.ok () r)=false from hbool)
 have N2:=hid (show zS (⟨#[105,102]⟩:ByteArray).data.toList (PR.ok () r)=false from hif)
 have N3:=hid (show zS (⟨#[119,104,105,108,101]⟩:ByteArray).data.toList (PR.ok () r)=false from hwhile)
 have N4:=hid (show zS (⟨#[98,114,101,97,107]⟩:ByteArray).data.toList (PR.ok () r)=false from hbreak)
 have Y0:=hid (show zS (⟨#[99,111,110,116,105,110,117,101]⟩:ByteArray).data.toList (PR.ok () r)=true from hcontinue)
 have HN:=hid (qG hn)
 clear h hn ex hint hbool hif hwhile hbreak hcontinue
 go_enter Tryd.func70,Tryd.ntmps70
 go_wp2_with (first
  | (go_at_call 59;(with_reducible refine(jM HC.out.st _ false N0.out).mono ?_);rintro e w1 ⟨rfl,hD⟩;replace HC:=hid (HC.out.step hD);clear hD)
  | (go_at_call 59;(with_reducible refine(jM HC.out.st _ false N1.out).mono ?_);rintro e w1 ⟨rfl,hD⟩;replace HC:=hid (HC.out.step hD);clear hD)
  | (go_at_call 43;(with_reducible refine(zF HC.out.st _ N2.out).mono ?_);rintro e w1 ⟨rfl,hD⟩
     replace HC:=hid (HC.out.step hD)
     clear hD
     obtain⟨⟨c0,c1,c2,c3,c4,c5⟩,fz⟩:=HC.out.own
     obtain⟨⟨s0,s1,s2,s3,s4,s5⟩,sz⟩:=HC.out.s)
  | (go_at_call 43;(with_reducible refine(zF HC.out.st _ N3.out).mono ?_);rintro e w1 ⟨rfl,hD⟩
     replace HC:=hid (HC.out.step hD)
     clear hD
     obtain⟨⟨c0,c1,c2,c3,c4,c5⟩,fz⟩:=HC.out.own
     obtain⟨⟨s0,s1,s2,s3,s4,s5⟩,sz⟩:=HC.out.s)
  | (go_at_call 43;(with_reducible refine(zF HC.out.st _ N4.out).mono ?_);rintro e w1 ⟨rfl,hD⟩
     replace HC:=hid (HC.out.step hD)
     clear hD
     obtain⟨⟨c0,c1,c2,c3,c4,c5⟩,fz⟩:=HC.out.own
     obtain⟨⟨s0,s1,s2,s3,s4,s5⟩,sz⟩:=HC.out.s)
  | (go_at_call 43;(with_reducible refine(zl HC.out.st _ Y0.out).mono ?_);rintro e w1 ⟨rfl,hD⟩
     replace HC:=hid (show kv b V all w (.ok () r.tail) w1 _ _ _ _ _ _ from HC.out.step hD)
     clear hD
     obtain⟨⟨c0,c1,c2,c3,c4,c5⟩,fz⟩:=HC.out.own
     obtain⟨⟨s0,s1,s2,s3,s4,s5⟩,sz⟩:=HC.out.s)
  | (go_at_call 45;(with_reducible refine(zb (HC.out.set0 (.int .i64 7)).st ⟨#[59]⟩).mono ?_);rintro e w9 ⟨rfl,hD⟩
     replace HC:=hid ((HC.out.set0 (.int .i64 7)).step hD)
     have hz9:=HC.out.size
     clear hD
     obtain⟨⟨c0,c1,c2,c3,c4,c5⟩,fz⟩:=HC.out.own
     obtain⟨⟨s0,s1,s2,s3,s4,s5⟩,sz⟩:=HC.out.s))
 obtain⟨f0,f1,f2,f3,f4,f5⟩:=HC.out.1.read (.int .i64 7) (.int .i64 0) (.string ⟨#[]⟩) (.slice none 0 0) (.slice none 0 0) (.slice none 0 0)
 refine bodyPost_ret (v:=.agg #[.int .i64 7,.int .i64 0,.string ⟨#[]⟩,.slice none 0 0,.slice none 0 0,.slice none 0 0]) (by simp[results,Tryd.results70,go_sem,f0,f1,f2,f3,f4,f5]) rfl ?_
 refine HC.out.fin (ja _ _ _) ?_
 exact q8 (P1:=fun a=>a=St.mk 7 0 bE [] [] []) rfl (yp (x:=.ok () r.tail) HN.out) HN.out fun a _ ha _=>by subst ha;exact⟨_,_,_,rfl,frEs_nil _ _,qV _ _,qV _ _⟩
theorem pstmt_return {b:Nat} {V:Value} {all r:List Tok} {w:World} {n:Nat} {d:Int} (h:zY b V all r false false w) (hd:0≤d∧d≤100) (hint:z9 x8 r=false) (hbool:z9 jf r=false) (hif:z9 sIf r=false) (hwhile:z9 kH r=false) (hbreak:z9 xd r=false) (hcontinue:z9 u6 r=false) (hreturn:z9 sRet r=true) (hn:zG (pS (n+1) d r)):
 Calls Tryd.prog 70 #[.pointer (some ⟨b,0,none⟩),.int .i64 d] w (qM b V all w (pS (n+1) d r) (u7 w.heap.size)):=by
 obtain⟨hd0,hd1⟩:=hd
 have HC:=hid (kv.start (x:=.ok () r) h)
 have hbw:=h.lt
 have hdd:¬ 100<d:=by omega
 have ex:pS (n+1) d r=ql (ql (PR.ok () r.tail) (fun r=>pE n 1 1 r) fun _ e=>St.mk 8 0 bE [e] [] []) (fun r=>zI [59] r) fun a _=>a:=by rw[pS,if_neg (by omega),if_neg (by rw[hint,hbool];decide),if_neg (by rw[hif];decide),if_neg (by rw[hwhile];decide),if_neg (by rw[hbreak];decide),if_neg (by rw[hcontinue];decide),if_pos hreturn];rfl
 rw[ex]at hn ⊢
 have N0:=hid (show zS (⟨#[105,110,116]⟩:ByteArray).data.toList (PR.ok () r)=false from hint)
 have N1:=hid (show zS (⟨#[98,111,111,108]⟩:ByteArray).data.toList (PR.ok () r)=false from hbool)
 have N2:=hid (show zS (⟨#[105,102]⟩:ByteArray).data.toList (PR.ok () r)=false from hif)
 have N3:=hid (show zS (⟨#[119,104,105,108,101]⟩:ByteArray).data.toList (PR.ok () r)=false from hwhile)
 have N4:=hid (show zS (⟨#[98,114,101,97,107]⟩:ByteArray).data.toList (PR.ok () r)=false from hbreak)
 have N5:=hid (show zS (⟨#[99,111,110,116,105,110,117,101]⟩:ByteArray).data.toList (PR.ok () r)=false from hcontinue)
 have Y0:=hid (show zS (⟨#[114,101,116,117,114,110]⟩:ByteArray).data.toList (PR.ok () r)=true from hreturn)
 have HN:=hid (qG hn)
 have HN2:=hid (show zG ((PR.ok () r.tail).bind fun _ r=>pE n 1 1 r) from qG (zx hn))
 have HE:=hid (y6 (b:=b) (V:=V) (all:=all) (n:=n) (d:=1) (by decide) (by decide))
 clear h hn ex hint hbool hif hwhile hbreak hcontinue hreturn
 go_enter Tryd.func70,Tryd.ntmps70
 go_wp2_with (first
  | (go_at_call 59;(with_reducible refine(jM HC.out.st _ false N0.out).mono ?_);rintro e w1 ⟨rfl,hD⟩;replace HC:=hid (HC.out.step hD);clear hD)
  | (go_at_call 59;(with_reducible refine(jM HC.out.st _ false N1.out).mono ?_);rintro e w1 ⟨rfl,hD⟩;replace HC:=hid (HC.out.step hD);clear hD)
  | (go_at_call 43;(with_reducible refine(zF HC.out.st _ N2.out).mono ?_);rintro e w1 ⟨rfl,hD⟩
     replace HC:=hid (HC.out.step hD)
     clear hD
     obtain⟨⟨c0,c1,c2,c3,c4,c5⟩,fz⟩:=HC.out.own
     obtain⟨⟨s0,s1,s2,s3,s4,s5⟩,sz⟩:=HC.out.s)
  | (go_at_call 43;(with_reducible refine(zF HC.out.st _ N3.out).mono ?_);rintro e w1 ⟨rfl,hD⟩
     replace HC:=hid (HC.out.step hD)
     clear hD
     obtain⟨⟨c0,c1,c2,c3,c4,c5⟩,fz⟩:=HC.out.own
     obtain⟨⟨s0,s1,s2,s3,s4,s5⟩,sz⟩:=HC.out.s)
  | (go_at_call 43;(with_reducible refine(zF HC.out.st _ N4.out).mono ?_);rintro e w1 ⟨rfl,hD⟩
     replace HC:=hid (HC.out.step hD)
     clear hD
     obtain⟨⟨c0,c1,c2,c3,c4,c5⟩,fz⟩:=HC.out.own
     obtain⟨⟨s0,s1,s2,s3,s4,s5⟩,sz⟩:=HC.out.s)
  | (go_at_call 43;(with_reducible refine(zF HC.out.st _ N5.out).mono ?_);rintro e w1 ⟨rfl,hD⟩
     replace HC:=hid (HC.out.step hD)
     clear hD
     obtain⟨⟨c0,c1,c2,c3,c4,c5⟩,fz⟩:=HC.out.own
     obtain⟨⟨s0,s1,s2,s3,s4,s5⟩,sz⟩:=HC.out.s)
  | (go_at_call 43;(with_reducible refine(zl HC.out.st _ Y0.out).mono ?_);rintro e w1 ⟨rfl,hD⟩
     replace HC:=hid (show kv b V all w (.ok () r.tail) w1 _ _ _ _ _ _ from HC.out.step hD)
     clear hD
     obtain⟨⟨c0,c1,c2,c3,c4,c5⟩,fz⟩:=HC.out.own
     obtain⟨⟨s0,s1,s2,s3,s4,s5⟩,sz⟩:=HC.out.s)
  | (go_at_call 81;(with_reducible refine(HE.out.call HC.out.st HN2.out).mono ?_);rintro e w2 ⟨v,rfl,hD,hG⟩
     obtain⟨k1,k2,k3,k4,k5,k6,k7,rfl⟩:=q6 hG HN2.out
     have HG:=hid (show jE _ fun a=>kN (w.heap.size+2) w2 a _ from hG.imp fun a ha=>kN.keep ha (zM.refl _ _) (by have:=HC.out.size;simp at this ⊢;omega))
     replace HC:=hid (HC.out.step hD)
     have hzE:=HC.out.size
     clear hD hG
     obtain⟨⟨c0,c1,c2,c3,c4,c5⟩,fz⟩:=HC.out.own
     obtain⟨⟨s0,s1,s2,s3,s4,s5⟩,sz⟩:=HC.out.s)
  | (go_at_call 45;(with_reducible refine(zb (((HC.out.set0 (.int .i64 8)).set3 (.slice (some ⟨w2.heap.size,0,none⟩) 1 1)).alloc (.cells #[.int .i64 k1,.int .i64 k2,.int .i64 k3,.string k4,.slice k5 k6 k7] 48)).st ⟨#[59]⟩).mono ?_);rintro e w9 ⟨rfl,hD⟩
     have HF:=hid (show jE _ fun a=>jK (w.heap.size+2) _ [a] _ from HG.out.imp fun a ha=>vU (T:=48) (kN.keep ha ((zM.set (g:=w.heap.size+1) (by omega) 0 (.int .i64 8)).trans (zM.set (g:=w.heap.size+1) (by omega) 3 (.slice (some ⟨w2.heap.size,0,none⟩) 1 1))) (Nat.le_refl _)) (Nat.le_refl _) (by simp;omega) (g:=w2.heap.size) (by simp))
     have HK:=hid (zM.did (L:=w.heap.size+2) hD (by omega))
     replace HC:=hid ((((HC.out.set0 (.int .i64 8)).set3 (.slice (some ⟨w2.heap.size,0,none⟩) 1 1)).alloc (.cells #[.int .i64 k1,.int .i64 k2,.int .i64 k3,.string k4,.slice k5 k6 k7] 48)).step hD)
     have hz9:=HC.out.size
     clear hD
     obtain⟨⟨c0,c1,c2,c3,c4,c5⟩,fz⟩:=HC.out.own
     obtain⟨⟨s0,s1,s2,s3,s4,s5⟩,sz⟩:=HC.out.s))
 obtain⟨f0,f1,f2,f3,f4,f5⟩:=HC.out.1.read (.int .i64 8) (.int .i64 0) (.string ⟨#[]⟩) (.slice (some ⟨w2.heap.size,0,none⟩) 1 1) (.slice none 0 0) (.slice none 0 0)
 refine bodyPost_ret (v:=.agg #[.int .i64 8,.int .i64 0,.string ⟨#[]⟩,.slice (some ⟨w2.heap.size,0,none⟩) 1 1,.slice none 0 0,.slice none 0 0]) (by simp[results,Tryd.results70,go_sem,f0,f1,f2,f3,f4,f5]) rfl ?_
 refine HC.out.fin (by rw[ja,jN];rfl) ?_
 refine q8 (q8 (P1:=fun _=>True) (P2:=_) (Q:=fun a=>∃ e,a=St.mk 8 0 bE [e] [] []∧jK (w.heap.size+2) _ [e] _) trivial HF.out HN2.out (fun _ e _ he=>⟨e,rfl,he⟩)) (yp HN.out) HN.out fun a _ ha _=>?_
 obtain⟨e,rfl,he⟩:=ha
 exact⟨_,_,_,rfl,jK.keep he (HK.out.trans (zM.nest6 (by omega) _ _ _ _ _ _)) (by omega),qV _ _,qV _ _⟩
theorem pstmt_print {b:Nat} {V:Value} {all r:List Tok} {w:World} {n:Nat} {d:Int} (h:zY b V all r false false w) (hd:0≤d∧d≤100) (hint:z9 x8 r=false) (hbool:z9 jf r=false) (hif:z9 sIf r=false) (hwhile:z9 kH r=false) (hbreak:z9 xd r=false) (hcontinue:z9 u6 r=false) (hreturn:z9 sRet r=false) (hprint:z9 yN r=true) (hn:zG (pS (n+1) d r)):
 Calls Tryd.prog 70 #[.pointer (some ⟨b,0,none⟩),.int .i64 d] w (qM b V all w (pS (n+1) d r) (u7 w.heap.size)):=by
 obtain⟨hd0,hd1⟩:=hd
 have HC:=hid (kv.start (x:=.ok () r) h)
 have hbw:=h.lt
 have hdd:¬ 100<d:=by omega
 have ex:pS (n+1) d r=ql (ql (PR.ok () r.tail) (fun r=>pI n r) fun _ e=>St.mk 9 0 bE [e] [] []) (fun r=>zI [59] r) fun a _=>a:=by rw[pS,if_neg (by omega),if_neg (by rw[hint,hbool];decide),if_neg (by rw[hif];decide),if_neg (by rw[hwhile];decide),if_neg (by rw[hbreak];decide),if_neg (by rw[hcontinue];decide),if_neg (by rw[hreturn];decide),if_pos hprint];rfl
 rw[ex]at hn ⊢
 have N0:=hid (show zS (⟨#[105,110,116]⟩:ByteArray).data.toList (PR.ok () r)=false from hint)
 have N1:=hid (show zS (⟨#[98,111,111,108]⟩:ByteArray).data.toList (PR.ok () r)=false from hbool)
 have N2:=hid (show zS (⟨#[105,102]⟩:ByteArray).data.toList (PR.ok () r)=false from hif)
 have N3:=hid (show zS (⟨#[119,104,105,108,101]⟩:ByteArray).data.toList (PR.ok () r)=false from hwhile)
 have N4:=hid (show zS (⟨#[98,114,101,97,107]⟩:ByteArray).data.toList (PR.ok () r)=false from hbreak)
 have N5:=hid (show zS (⟨#[99,111,110,116,105,110,117,101]⟩:ByteArray).data.toList (PR.ok () r)=false from hcontinue)
 have N6:=hid (show zS (⟨#[114,101,116,117,114,110]⟩:ByteArray).data.toList (PR.ok () r)=false from hreturn)
 have Y0:=hid (show zS (⟨#[112,114,105,110,116]⟩:ByteArray).data.toList (PR.ok () r)=true from hprint)
 have HN:=hid (qG hn)
 have HN2:=hid (show zG ((PR.ok () r.tail).bind fun _ r=>pI n r) from qG (zx hn))
 clear h hn ex hint hbool hif hwhile hbreak hcontinue hreturn hprint
 go_enter Tryd.func70,Tryd.ntmps70
 go_wp2_with (first
  | (go_at_call 59;(with_reducible refine(jM HC.out.st _ false N0.out).mono ?_);rintro e w1 ⟨rfl,hD⟩;replace HC:=hid (HC.out.step hD);clear hD)
  | (go_at_call 59;(with_reducible refine(jM HC.out.st _ false N1.out).mono ?_);rintro e w1 ⟨rfl,hD⟩;replace HC:=hid (HC.out.step hD);clear hD)
  | (go_at_call 43;(with_reducible refine(zF HC.out.st _ N2.out).mono ?_);rintro e w1 ⟨rfl,hD⟩
     replace HC:=hid (HC.out.step hD)
     clear hD
     obtain⟨⟨c0,c1,c2,c3,c4,c5⟩,fz⟩:=HC.out.own
     obtain⟨⟨s0,s1,s2,s3,s4,s5⟩,sz⟩:=HC.out.s)
  | (go_at_call 43;(with_reducible refine(zF HC.out.st _ N3.out).mono ?_);rintro e w1 ⟨rfl,hD⟩
     replace HC:=hid (HC.out.step hD)
     clear hD
     obtain⟨⟨c0,c1,c2,c3,c4,c5⟩,fz⟩:=HC.out.own
     obtain⟨⟨s0,s1,s2,s3,s4,s5⟩,sz⟩:=HC.out.s)
  | (go_at_call 43;(with_reducible refine(zF HC.out.st _ N4.out).mono ?_);rintro e w1 ⟨rfl,hD⟩
     replace HC:=hid (HC.out.step hD)
     clear hD
     obtain⟨⟨c0,c1,c2,c3,c4,c5⟩,fz⟩:=HC.out.own
     obtain⟨⟨s0,s1,s2,s3,s4,s5⟩,sz⟩:=HC.out.s)
  | (go_at_call 43;(with_reducible refine(zF HC.out.st _ N5.out).mono ?_);rintro e w1 ⟨rfl,hD⟩
     replace HC:=hid (HC.out.step hD)
     clear hD
     obtain⟨⟨c0,c1,c2,c3,c4,c5⟩,fz⟩:=HC.out.own
     obtain⟨⟨s0,s1,s2,s3,s4,s5⟩,sz⟩:=HC.out.s)
  | (go_at_call 43;(with_reducible refine(zF HC.out.st _ N6.out).mono ?_);rintro e w1 ⟨rfl,hD⟩
     replace HC:=hid (HC.out.step hD)
     clear hD
     obtain⟨⟨c0,c1,c2,c3,c4,c5⟩,fz⟩:=HC.out.own
     obtain⟨⟨s0,s1,s2,s3,s4,s5⟩,sz⟩:=HC.out.s)
  | (go_at_call 43;(with_reducible refine(zl HC.out.st _ Y0.out).mono ?_);rintro e w1 ⟨rfl,hD⟩
     replace HC:=hid (show kv b V all w (.ok () r.tail) w1 _ _ _ _ _ _ from HC.out.step hD)
     clear hD
     obtain⟨⟨c0,c1,c2,c3,c4,c5⟩,fz⟩:=HC.out.own
     obtain⟨⟨s0,s1,s2,s3,s4,s5⟩,sz⟩:=HC.out.s)
  | (go_at_call 82;(with_reducible refine(uR HC.out.st HN2.out).mono ?_);rintro e w2 ⟨v,rfl,hD,hG⟩
     obtain⟨k5,k6,k7,rfl⟩:=one_form hG HN2.out
     have HF:=hid (show jE _ fun a=>jK (w.heap.size+2) w2 [a] (.slice k5 k6 k7) from hG.imp fun a ha=>jK.keep ha (zM.refl _ _) (by have:=HC.out.size;simp at this ⊢;omega))
     replace HC:=hid (HC.out.step hD)
     clear hD hG
     obtain⟨⟨c0,c1,c2,c3,c4,c5⟩,fz⟩:=HC.out.own
     obtain⟨⟨s0,s1,s2,s3,s4,s5⟩,sz⟩:=HC.out.s)
  | (go_at_call 45;(with_reducible refine(zb ((HC.out.set0 (.int .i64 9)).set3 (.slice k5 k6 k7)).st ⟨#[59]⟩).mono ?_);rintro e w9 ⟨rfl,hD⟩
     have HK:=hid (((zM.set (L:=w.heap.size+2) (g:=w.heap.size+1) (by omega) 0 (.int .i64 9)).trans (zM.set (g:=w.heap.size+1) (by omega) 3 (.slice k5 k6 k7))).trans (zM.did hD (by omega)))
     replace HC:=hid (((HC.out.set0 (.int .i64 9)).set3 (.slice k5 k6 k7)).step hD)
     have hz9:=HC.out.size
     clear hD
     obtain⟨⟨c0,c1,c2,c3,c4,c5⟩,fz⟩:=HC.out.own
     obtain⟨⟨s0,s1,s2,s3,s4,s5⟩,sz⟩:=HC.out.s))
 obtain⟨f0,f1,f2,f3,f4,f5⟩:=HC.out.1.read (.int .i64 9) (.int .i64 0) (.string ⟨#[]⟩) (.slice k5 k6 k7) (.slice none 0 0) (.slice none 0 0)
 refine bodyPost_ret (v:=.agg #[.int .i64 9,.int .i64 0,.string ⟨#[]⟩,.slice k5 k6 k7,.slice none 0 0,.slice none 0 0]) (by simp[results,Tryd.results70,go_sem,f0,f1,f2,f3,f4,f5]) rfl ?_
 refine HC.out.fin (by rw[ja,jN];rfl) ?_
 refine q8 (q8 (P1:=fun _=>True) (P2:=_) (Q:=fun a=>∃ e,a=St.mk 9 0 bE [e] [] []∧jK (w.heap.size+2) _ [e] _) trivial HF.out HN2.out (fun _ e _ he=>⟨e,rfl,he⟩)) (yp HN.out) HN.out fun a _ ha _=>?_
 obtain⟨e,rfl,he⟩:=ha
 exact⟨_,_,_,rfl,jK.keep he (HK.out.trans (zM.nest6 (by omega) _ _ _ _ _ _)) (by omega),qV _ _,qV _ _⟩
theorem stmt_name {b:Nat} {V:Value} {all r:List Tok} {w:World} {n:Nat} {d:Int} (h:zY b V all r false false w) (hd:0≤d∧d≤100) (hint:z9 x8 r=false) (hbool:z9 jf r=false) (hif:z9 sIf r=false) (hwhile:z9 kH r=false) (hbreak:z9 xd r=false) (hcontinue:z9 u6 r=false) (hreturn:z9 sRet r=false) (hprint:z9 yN r=false) (hn:zG (pS (n+1) d r)):
 Calls Tryd.prog 70 #[.pointer (some ⟨b,0,none⟩),.int .i64 d] w (qM b V all w (pS (n+1) d r) (u7 w.heap.size)):=by
 obtain⟨hd0,hd1⟩:=hd
 have HC:=hid (kv.start (x:=.ok () r) h)
 have hbw:=h.lt
 have hdd:¬ 100<d:=by omega
 have ex:pS (n+1) d r=ql ((PR.ok () r).bind fun _ r=>pNm n r) (fun r=>zI [59] r) fun a _=>a:=by rw[pS,if_neg (by omega),if_neg (by rw[hint,hbool];decide),if_neg (by rw[hif];decide),if_neg (by rw[hwhile];decide),if_neg (by rw[hbreak];decide),if_neg (by rw[hcontinue];decide),if_neg (by rw[hreturn];decide),if_neg (by rw[hprint];decide)];rfl
 rw[ex]at hn ⊢
 have N0:=hid (show zS (⟨#[105,110,116]⟩:ByteArray).data.toList (PR.ok () r)=false from hint)
 have N1:=hid (show zS (⟨#[98,111,111,108]⟩:ByteArray).data.toList (PR.ok () r)=false from hbool)
 have N2:=hid (show zS (⟨#[105,102]⟩:ByteArray).data.toList (PR.ok () r)=false from hif)
 have N3:=hid (show zS (⟨#[119,104,105,108,101]⟩:ByteArray).data.toList (PR.ok () r)=false from hwhile)
 have N4:=hid (show zS (⟨#[98,114,101,97,107]⟩:ByteArray).data.toList (PR.ok () r)=false from hbreak)
 have N5:=hid (show zS (⟨#[99,111,110,116,105,110,117,101]⟩:ByteArray).data.toList (PR.ok () r)=false from hcontinue)
 have N6:=hid (show zS (⟨#[114,101,116,117,114,110]⟩:ByteArray).data.toList (PR.ok () r)=false from hreturn)
 have N7:=hid (show zS (⟨#[112,114,105,110,116]⟩:ByteArray).data.toList (PR.ok () r)=false from hprint)
 have HN:=hid (qG hn)
 have HN2:=hid (show zG ((PR.ok () r).bind fun _ r=>pNm n r) from zx hn)
 clear h hn ex hint hbool hif hwhile hbreak hcontinue hreturn hprint
 go_enter Tryd.func70,Tryd.ntmps70
 go_wp2_with (first
  | (go_at_call 59;(with_reducible refine(jM HC.out.st _ false N0.out).mono ?_);rintro e w1 ⟨rfl,hD⟩;replace HC:=hid (HC.out.step hD);clear hD)
  | (go_at_call 59;(with_reducible refine(jM HC.out.st _ false N1.out).mono ?_);rintro e w1 ⟨rfl,hD⟩;replace HC:=hid (HC.out.step hD);clear hD)
  | (go_at_call 43;(with_reducible refine(zF HC.out.st _ N2.out).mono ?_);rintro e w1 ⟨rfl,hD⟩
     replace HC:=hid (HC.out.step hD)
     clear hD
     obtain⟨⟨c0,c1,c2,c3,c4,c5⟩,fz⟩:=HC.out.own
     obtain⟨⟨s0,s1,s2,s3,s4,s5⟩,sz⟩:=HC.out.s)
  | (go_at_call 43;(with_reducible refine(zF HC.out.st _ N3.out).mono ?_);rintro e w1 ⟨rfl,hD⟩
     replace HC:=hid (HC.out.step hD)
     clear hD
     obtain⟨⟨c0,c1,c2,c3,c4,c5⟩,fz⟩:=HC.out.own
     obtain⟨⟨s0,s1,s2,s3,s4,s5⟩,sz⟩:=HC.out.s)
  | (go_at_call 43;(with_reducible refine(zF HC.out.st _ N4.out).mono ?_);rintro e w1 ⟨rfl,hD⟩
     replace HC:=hid (HC.out.step hD)
     clear hD
     obtain⟨⟨c0,c1,c2,c3,c4,c5⟩,fz⟩:=HC.out.own
     obtain⟨⟨s0,s1,s2,s3,s4,s5⟩,sz⟩:=HC.out.s)
  | (go_at_call 43;(with_reducible refine(zF HC.out.st _ N5.out).mono ?_);rintro e w1 ⟨rfl,hD⟩
     replace HC:=hid (HC.out.step hD)
     clear hD
     obtain⟨⟨c0,c1,c2,c3,c4,c5⟩,fz⟩:=HC.out.own
     obtain⟨⟨s0,s1,s2,s3,s4,s5⟩,sz⟩:=HC.out.s)
  | (go_at_call 43;(with_reducible refine(zF HC.out.st _ N6.out).mono ?_);rintro e w1 ⟨rfl,hD⟩
     replace HC:=hid (HC.out.step hD)
     clear hD
     obtain⟨⟨c0,c1,c2,c3,c4,c5⟩,fz⟩:=HC.out.own
     obtain⟨⟨s0,s1,s2,s3,s4,s5⟩,sz⟩:=HC.out.s)
  | (go_at_call 43;(with_reducible refine(zF HC.out.st _ N7.out).mono ?_);rintro e w1 ⟨rfl,hD⟩
     replace HC:=hid (HC.out.step hD)
     clear hD
     obtain⟨⟨c0,c1,c2,c3,c4,c5⟩,fz⟩:=HC.out.own
     obtain⟨⟨s0,s1,s2,s3,s4,s5⟩,sz⟩:=HC.out.s)
  | (go_at_call 83;(with_reducible refine(named_any HC.out.st HN2.out).mono ?_);rintro e w2 ⟨v,rfl,hD,hG⟩
     obtain⟨k0,k1,k2,A3,m3,q3,A4,m4,q4,A5,m5,q5,rfl⟩:=gots_form hG HN2.out
     have HF:=hid (show jE _ fun a=>u7 (w.heap.size+2) w2 a _ from hG.imp fun a ha=>u7.keep ha (zM.refl _ _) (by have:=HC.out.size;simp at this ⊢;omega))
     replace HC:=hid (HC.out.step hD)
     clear hD hG
     obtain⟨⟨c0,c1,c2,c3,c4,c5⟩,fz⟩:=HC.out.own
     obtain⟨⟨s0,s1,s2,s3,s4,s5⟩,sz⟩:=HC.out.s)
  | (go_at_call 45;(with_reducible refine(zb ((((((HC.out.set0 (.int .i64 k0)).set1 (.int .i64 k1)).set2 (.string k2)).set3 (.slice A3 m3 q3)).set4 (.slice A4 m4 q4)).set5 (.slice A5 m5 q5)).st ⟨#[59]⟩).mono ?_);rintro e w9 ⟨rfl,hD⟩
     have HK:=hid ((zM.nest6 (L:=w.heap.size+2) (g:=w.heap.size+1) (by omega) (.int .i64 k0) (.int .i64 k1) (.string k2) (.slice A3 m3 q3) (.slice A4 m4 q4) (.slice A5 m5 q5)).trans (zM.did hD (by omega)))
     replace HC:=hid (((((((HC.out.set0 (.int .i64 k0)).set1 (.int .i64 k1)).set2 (.string k2)).set3 (.slice A3 m3 q3)).set4 (.slice A4 m4 q4)).set5 (.slice A5 m5 q5)).step hD)
     have hz9:=HC.out.size
     clear hD
     obtain⟨⟨c0,c1,c2,c3,c4,c5⟩,fz⟩:=HC.out.own
     obtain⟨⟨s0,s1,s2,s3,s4,s5⟩,sz⟩:=HC.out.s))
 obtain⟨f0,f1,f2,f3,f4,f5⟩:=HC.out.1.read (.int .i64 k0) (.int .i64 k1) (.string k2) (.slice A3 m3 q3) (.slice A4 m4 q4) (.slice A5 m5 q5)
 refine bodyPost_ret (v:=.agg #[.int .i64 k0,.int .i64 k1,.string k2,.slice A3 m3 q3,.slice A4 m4 q4,.slice A5 m5 q5]) (by simp[results,Tryd.results70,go_sem,f0,f1,f2,f3,f4,f5]) rfl ?_
 refine HC.out.fin (ja _ _ _) ?_
 exact q8 HF.out (yp HN.out) HN.out fun a _ ha _=>u7.keep ha (HK.out.trans (zM.nest6 (by omega) _ _ _ _ _ _)) (by omega)
theorem stmt_int {b:Nat} {V:Value} {all r:List Tok} {w:World} {n:Nat} {d:Int} (h:zY b V all r false false w) (hd:0≤d∧d≤100) (hint:z9 x8 r=true) (hn:zG (pS (n+1) d r)):
 Calls Tryd.prog 70 #[.pointer (some ⟨b,0,none⟩),.int .i64 d] w (qM b V all w (pS (n+1) d r) (u7 w.heap.size)):=by
 obtain⟨hd0,hd1⟩:=hd
 have HC:=hid (kv.start (x:=.ok () r) h)
 have hbw:=h.lt
 have hdd:¬ 100<d:=by omega
 have ex:pS (n+1) d r=ql (ql (ql ((PR.ok () r).bind fun _ r=>yt r) (fun r=>zy 1 r) fun t s=>(t,s)) (fun r=>(zI [61] r).bind fun _ r=>pE n 1 1 r) fun p e=>St.mk 1 p.1 p.2 [e] [] []) (fun r=>zI [59] r) fun a _=>a:=by
  rw[pS,if_neg (by omega),if_pos (.inl hint)]
  unfold q9 ql
  simp only[zW,bind_ok']
 rw[ex]at hn ⊢
 have Y0:=hid (show zS (⟨#[105,110,116]⟩:ByteArray).data.toList (PR.ok () r)=true from hint)
 have HN:=hid (qG hn)
 have hE3:=qG (zx hn)
 have HN3:=hid hE3
 have hE1:=zx (zx (zx hn))
 have HN1:=hid hE1
 have HNW:=hid (qG (zx (zx hn)))
 rw[jN,←zW]at hE3
 have HN2:=hid hE3
 clear h hn ex hE3 hE1 hint
 have HE:=hid (y6 (b:=b) (V:=V) (all:=all) (n:=n) (d:=1) (by decide) (by decide))
 go_enter Tryd.func70,Tryd.ntmps70
 go_wp2_with (first
  | (go_at_call 59;(with_reducible refine(jM HC.out.st _ true Y0.out).mono ?_);rintro e w1 ⟨rfl,hD⟩;replace HC:=hid (HC.out.step hD);clear hD)
  | (go_at_call 41;(with_reducible refine(vw HC.out.st).mono ?_);rintro e w2 ⟨v,rfl,hD,hG⟩
     obtain⟨t,rfl⟩:=int_form hG HN1.out
     have HGT:=hid (show jE _ fun a=>a=t from hG.imp fun a ha=>by injection (show Value.int .i64 t=.int .i64 a from ha) with _ h;exact h.symm)
     replace HC:=hid (HC.out.step hD)
     clear hD hG
     obtain⟨⟨c0,c1,c2,c3,c4,c5⟩,fz⟩:=HC.out.own
     obtain⟨⟨s0,s1,s2,s3,s4,s5⟩,sz⟩:=HC.out.s)
  | (go_at_call 42;(with_reducible refine(yJ ((HC.out.set0 (.int .i64 1)).set1 (.int .i64 t)).st 1 (by decide)).mono ?_);rintro e w3 ⟨s,rfl,hD,hG⟩
     have HGS:=hid hG
     replace HC:=hid (((HC.out.set0 (.int .i64 1)).set1 (.int .i64 t)).step hD)
     clear hD hG
     obtain⟨⟨c0,c1,c2,c3,c4,c5⟩,fz⟩:=HC.out.own
     obtain⟨⟨s0,s1,s2,s3,s4,s5⟩,sz⟩:=HC.out.s)
  | (go_at_call 45;(with_reducible refine(zb (HC.out.set2 (.string s)).st ⟨#[61]⟩).mono ?_);rintro e w4 ⟨rfl,hD⟩
     replace HC:=hid (show kv b V all w ((((PR.ok () r).bind fun _ r=>yt r).un.bind fun _ r=>zy 1 r).un.bind fun _ r=>zI [61] r) w4 _ _ _ _ _ _ from(HC.out.set2 (.string s)).step hD)
     clear hD
     obtain⟨⟨c0,c1,c2,c3,c4,c5⟩,fz⟩:=HC.out.own
     obtain⟨⟨s0,s1,s2,s3,s4,s5⟩,sz⟩:=HC.out.s)
  | (go_at_call 81;(with_reducible refine(HE.out.call HC.out.st HN2.out).mono ?_);rintro e w5 ⟨v,rfl,hD,hG⟩
     obtain⟨k1,k2,k3,k4,k5,k6,k7,rfl⟩:=q6 hG HN2.out
     have HG:=hid (show jE _ fun a=>kN (w.heap.size+2) w5 a _ from hG.imp fun a ha=>kN.keep ha (zM.refl _ _) (by have:=HC.out.size;simp at this ⊢;omega))
     replace HC:=hid (HC.out.step hD)
     have hzE:=HC.out.size
     clear hD hG
     obtain⟨⟨c0,c1,c2,c3,c4,c5⟩,fz⟩:=HC.out.own
     obtain⟨⟨s0,s1,s2,s3,s4,s5⟩,sz⟩:=HC.out.s)
  | (go_at_call 45;(with_reducible refine(zb ((HC.out.set3 (.slice (some ⟨w5.heap.size,0,none⟩) 1 1)).alloc (.cells #[.int .i64 k1,.int .i64 k2,.int .i64 k3,.string k4,.slice k5 k6 k7] 48)).st ⟨#[59]⟩).mono ?_);rintro e w9 ⟨rfl,hD⟩
     have HF:=hid (show jE _ fun a=>jK (w.heap.size+2) _ [a] _ from HG.out.imp fun a ha=>vU (T:=48) (kN.keep ha (zM.set (g:=w.heap.size+1) (by omega) 3 (.slice (some ⟨w5.heap.size,0,none⟩) 1 1)) (Nat.le_refl _)) (Nat.le_refl _) (by simp;omega) (g:=w5.heap.size) (by simp))
     have HK:=hid (zM.did (L:=w.heap.size+2) hD (by omega))
     replace HC:=hid (((HC.out.set3 (.slice (some ⟨w5.heap.size,0,none⟩) 1 1)).alloc (.cells #[.int .i64 k1,.int .i64 k2,.int .i64 k3,.string k4,.slice k5 k6 k7] 48)).step hD)
     have hz9:=HC.out.size
     clear hD
     obtain⟨⟨c0,c1,c2,c3,c4,c5⟩,fz⟩:=HC.out.own
     obtain⟨⟨s0,s1,s2,s3,s4,s5⟩,sz⟩:=HC.out.s))
 obtain⟨f0,f1,f2,f3,f4,f5⟩:=HC.out.1.read (.int .i64 1) (.int .i64 t) (.string s) (.slice (some ⟨w5.heap.size,0,none⟩) 1 1) (.slice none 0 0) (.slice none 0 0)
 refine bodyPost_ret (v:=.agg #[.int .i64 1,.int .i64 t,.string s,.slice (some ⟨w5.heap.size,0,none⟩) 1 1,.slice none 0 0,.slice none 0 0]) (by simp[results,Tryd.results70,go_sem,f0,f1,f2,f3,f4,f5]) rfl ?_
 refine HC.out.fin (by rw[ja,jN,jN,←zW]) ?_
 have hF:=HF.out
 rw[zW,←jN (F:=fun (a:Int) (s:ByteArray)=>(a,s))]at hF
 refine q8 (q8 (Q:=fun a=>∃ e,a=St.mk 1 t s [e] [] []∧jK (w.heap.size+2) _ [e] _) (q8 (Q:=fun p=>p=(t,s)) HGT.out HGS.out HNW.out (fun a b ha hb=>by rw[ha,hb])) hF HN3.out (fun p e hp he=>⟨e,by rw[hp],he⟩)) (yp HN.out) HN.out fun a _ ha _=>?_
 obtain⟨e,rfl,he⟩:=ha
 exact⟨_,_,_,rfl,jK.keep he (HK.out.trans (zM.nest6 (by omega) _ _ _ _ _ _)) (by omega),qV _ _,qV _ _⟩
theorem stmt_bool {b:Nat} {V:Value} {all r:List Tok} {w:World} {n:Nat} {d:Int} (h:zY b V all r false false w) (hd:0≤d∧d≤100) (hint:z9 x8 r=false) (hbool:z9 jf r=true) (hn:zG (pS (n+1) d r)):
 Calls Tryd.prog 70 #[.pointer (some ⟨b,0,none⟩),.int .i64 d] w (qM b V all w (pS (n+1) d r) (u7 w.heap.size)):=by
 obtain⟨hd0,hd1⟩:=hd
 have HC:=hid (kv.start (x:=.ok () r) h)
 have hbw:=h.lt
 have hdd:¬ 100<d:=by omega
 have ex:pS (n+1) d r=ql (ql (ql ((PR.ok () r).bind fun _ r=>yt r) (fun r=>zy 1 r) fun t s=>(t,s)) (fun r=>(zI [61] r).bind fun _ r=>pE n 1 1 r) fun p e=>St.mk 1 p.1 p.2 [e] [] []) (fun r=>zI [59] r) fun a _=>a:=by
  rw[pS,if_neg (by omega),if_pos (.inr hbool)]
  unfold q9 ql
  simp only[zW,bind_ok']
 rw[ex]at hn ⊢
 have N0:=hid (show zS (⟨#[105,110,116]⟩:ByteArray).data.toList (PR.ok () r)=false from hint)
 have Y0:=hid (show zS (⟨#[98,111,111,108]⟩:ByteArray).data.toList (PR.ok () r)=true from hbool)
 have HN:=hid (qG hn)
 have hE3:=qG (zx hn)
 have HN3:=hid hE3
 have hE1:=zx (zx (zx hn))
 have HN1:=hid hE1
 have HNW:=hid (qG (zx (zx hn)))
 rw[jN,←zW]at hE3
 have HN2:=hid hE3
 clear h hn ex hE3 hE1 hint hbool
 have HE:=hid (y6 (b:=b) (V:=V) (all:=all) (n:=n) (d:=1) (by decide) (by decide))
 go_enter Tryd.func70,Tryd.ntmps70
 go_wp2_with (first
  | (go_at_call 59;(with_reducible refine(jM HC.out.st _ false N0.out).mono ?_);rintro e w1 ⟨rfl,hD⟩;replace HC:=hid (HC.out.step hD);clear hD)
  | (go_at_call 59;(with_reducible refine(jM HC.out.st _ true Y0.out).mono ?_);rintro e w1 ⟨rfl,hD⟩;replace HC:=hid (HC.out.step hD);clear hD)
  | (go_at_call 41;(with_reducible refine(vw HC.out.st).mono ?_);rintro e w2 ⟨v,rfl,hD,hG⟩
     obtain⟨t,rfl⟩:=int_form hG HN1.out
     have HGT:=hid (show jE _ fun a=>a=t from hG.imp fun a ha=>by injection (show Value.int .i64 t=.int .i64 a from ha) with _ h;exact h.symm)
     replace HC:=hid (HC.out.step hD)
     clear hD hG
     obtain⟨⟨c0,c1,c2,c3,c4,c5⟩,fz⟩:=HC.out.own
     obtain⟨⟨s0,s1,s2,s3,s4,s5⟩,sz⟩:=HC.out.s)
  | (go_at_call 42;(with_reducible refine(yJ ((HC.out.set0 (.int .i64 1)).set1 (.int .i64 t)).st 1 (by decide)).mono ?_);rintro e w3 ⟨s,rfl,hD,hG⟩
     have HGS:=hid hG
     replace HC:=hid (((HC.out.set0 (.int .i64 1)).set1 (.int .i64 t)).step hD)
     clear hD hG
     obtain⟨⟨c0,c1,c2,c3,c4,c5⟩,fz⟩:=HC.out.own
     obtain⟨⟨s0,s1,s2,s3,s4,s5⟩,sz⟩:=HC.out.s)
  | (go_at_call 45;(with_reducible refine(zb (HC.out.set2 (.string s)).st ⟨#[61]⟩).mono ?_);rintro e w4 ⟨rfl,hD⟩
     replace HC:=hid (show kv b V all w ((((PR.ok () r).bind fun _ r=>yt r).un.bind fun _ r=>zy 1 r).un.bind fun _ r=>zI [61] r) w4 _ _ _ _ _ _ from(HC.out.set2 (.string s)).step hD)
     clear hD
     obtain⟨⟨c0,c1,c2,c3,c4,c5⟩,fz⟩:=HC.out.own
     obtain⟨⟨s0,s1,s2,s3,s4,s5⟩,sz⟩:=HC.out.s)
  | (go_at_call 81;(with_reducible refine(HE.out.call HC.out.st HN2.out).mono ?_);rintro e w5 ⟨v,rfl,hD,hG⟩
     obtain⟨k1,k2,k3,k4,k5,k6,k7,rfl⟩:=q6 hG HN2.out
     have HG:=hid (show jE _ fun a=>kN (w.heap.size+2) w5 a _ from hG.imp fun a ha=>kN.keep ha (zM.refl _ _) (by have:=HC.out.size;simp at this ⊢;omega))
     replace HC:=hid (HC.out.step hD)
     have hzE:=HC.out.size
     clear hD hG
     obtain⟨⟨c0,c1,c2,c3,c4,c5⟩,fz⟩:=HC.out.own
     obtain⟨⟨s0,s1,s2,s3,s4,s5⟩,sz⟩:=HC.out.s)
  | (go_at_call 45;(with_reducible refine(zb ((HC.out.set3 (.slice (some ⟨w5.heap.size,0,none⟩) 1 1)).alloc (.cells #[.int .i64 k1,.int .i64 k2,.int .i64 k3,.string k4,.slice k5 k6 k7] 48)).st ⟨#[59]⟩).mono ?_);rintro e w9 ⟨rfl,hD⟩
     have HF:=hid (show jE _ fun a=>jK (w.heap.size+2) _ [a] _ from HG.out.imp fun a ha=>vU (T:=48) (kN.keep ha (zM.set (g:=w.heap.size+1) (by omega) 3 (.slice (some ⟨w5.heap.size,0,none⟩) 1 1)) (Nat.le_refl _)) (Nat.le_refl _) (by simp;omega) (g:=w5.heap.size) (by simp))
     have HK:=hid (zM.did (L:=w.heap.size+2) hD (by omega))
     replace HC:=hid (((HC.out.set3 (.slice (some ⟨w5.heap.size,0,none⟩) 1 1)).alloc (.cells #[.int .i64 k1,.int .i64 k2,.int .i64 k3,.string k4,.slice k5 k6 k7] 48)).step hD)
     have hz9:=HC.out.size
     clear hD
     obtain⟨⟨c0,c1,c2,c3,c4,c5⟩,fz⟩:=HC.out.own
     obtain⟨⟨s0,s1,s2,s3,s4,s5⟩,sz⟩:=HC.out.s))
 obtain⟨f0,f1,f2,f3,f4,f5⟩:=HC.out.1.read (.int .i64 1) (.int .i64 t) (.string s) (.slice (some ⟨w5.heap.size,0,none⟩) 1 1) (.slice none 0 0) (.slice none 0 0)
 refine bodyPost_ret (v:=.agg #[.int .i64 1,.int .i64 t,.string s,.slice (some ⟨w5.heap.size,0,none⟩) 1 1,.slice none 0 0,.slice none 0 0]) (by simp[results,Tryd.results70,go_sem,f0,f1,f2,f3,f4,f5]) rfl ?_
 refine HC.out.fin (by rw[ja,jN,jN,←zW]) ?_
 have hF:=HF.out
 rw[zW,←jN (F:=fun (a:Int) (s:ByteArray)=>(a,s))]at hF
 refine q8 (q8 (Q:=fun a=>∃ e,a=St.mk 1 t s [e] [] []∧jK (w.heap.size+2) _ [e] _) (q8 (Q:=fun p=>p=(t,s)) HGT.out HGS.out HNW.out (fun a b ha hb=>by rw[ha,hb])) hF HN3.out (fun p e hp he=>⟨e,by rw[hp],he⟩)) (yp HN.out) HN.out fun a _ ha _=>?_
 obtain⟨e,rfl,he⟩:=ha
 exact⟨_,_,_,rfl,jK.keep he (HK.out.trans (zM.nest6 (by omega) _ _ _ _ _ _)) (by omega),qV _ _,qV _ _⟩
theorem pstmt_while {b:Nat} {V:Value} {all r:List Tok} {w:World} {n:Nat} {d:Int} (hB:CB b V all n (d+1)) (h:zY b V all r false false w) (hd:0≤d∧d≤100) (hint:z9 x8 r=false) (hbool:z9 jf r=false) (hif:z9 sIf r=false) (hwhile:z9 kH r=true) (hn:zG (pS (n+1) d r)):
 Calls Tryd.prog 70 #[.pointer (some ⟨b,0,none⟩),.int .i64 d] w (qM b V all w (pS (n+1) d r) (u7 w.heap.size)):=by
 obtain⟨hd0,hd1⟩:=hd
 have HC:=hid (kv.start (x:=.ok () r) h)
 have hbw:=h.lt
 have hdd:¬ 100<d:=by omega
 have ex:pS (n+1) d r=ql ((PR.ok () r.tail).bind fun _ r=>pI n r) (fun r=>pB n (d+1) r) fun e t=>St.mk 5 0 bE [e] t []:=by rw[pS,if_neg (by omega),if_neg (by rw[hint,hbool];decide),if_neg (by rw[hif];decide),if_pos hwhile];rfl
 rw[ex]at hn ⊢
 have N0:=hid (show zS (⟨#[105,110,116]⟩:ByteArray).data.toList (PR.ok () r)=false from hint)
 have N1:=hid (show zS (⟨#[98,111,111,108]⟩:ByteArray).data.toList (PR.ok () r)=false from hbool)
 have N2:=hid (show zS (⟨#[105,102]⟩:ByteArray).data.toList (PR.ok () r)=false from hif)
 have Y0:=hid (show zS (⟨#[119,104,105,108,101]⟩:ByteArray).data.toList (PR.ok () r)=true from hwhile)
 have HN:=hid (qG hn)
 have HN2:=hid (zx hn)
 have HB:=hid hB
 clear h hn ex hB hint hbool hif hwhile
 go_enter Tryd.func70,Tryd.ntmps70
 go_wp2_with (first
  | (go_at_call 59;(with_reducible refine(jM HC.out.st _ false N0.out).mono ?_);rintro e w1 ⟨rfl,hD⟩;replace HC:=hid (HC.out.step hD);clear hD)
  | (go_at_call 59;(with_reducible refine(jM HC.out.st _ false N1.out).mono ?_);rintro e w1 ⟨rfl,hD⟩;replace HC:=hid (HC.out.step hD);clear hD)
  | (go_at_call 43;(with_reducible refine(zF HC.out.st _ N2.out).mono ?_);rintro e w1 ⟨rfl,hD⟩
     replace HC:=hid (HC.out.step hD)
     clear hD
     obtain⟨⟨c0,c1,c2,c3,c4,c5⟩,fz⟩:=HC.out.own
     obtain⟨⟨s0,s1,s2,s3,s4,s5⟩,sz⟩:=HC.out.s)
  | (go_at_call 43;(with_reducible refine(zl HC.out.st _ Y0.out).mono ?_);rintro e w1 ⟨rfl,hD⟩
     replace HC:=hid (show kv b V all w (.ok () r.tail) w1 _ _ _ _ _ _ from HC.out.step hD)
     clear hD
     obtain⟨⟨c0,c1,c2,c3,c4,c5⟩,fz⟩:=HC.out.own
     obtain⟨⟨s0,s1,s2,s3,s4,s5⟩,sz⟩:=HC.out.s)
  | (go_at_call 82;(with_reducible refine(uR HC.out.st HN2.out).mono ?_);rintro e w2 ⟨v,rfl,hD,hG⟩
     obtain⟨k5,k6,k7,rfl⟩:=one_form hG HN2.out
     have HF:=hid (show jE _ fun a=>jK (w.heap.size+2) w2 [a] (.slice k5 k6 k7) from hG.imp fun a ha=>jK.keep ha (zM.refl _ _) (by have:=HC.out.size;simp at this ⊢;omega))
     replace HC:=hid (HC.out.step hD)
     clear hD hG
     obtain⟨⟨c0,c1,c2,c3,c4,c5⟩,fz⟩:=HC.out.own
     obtain⟨⟨s0,s1,s2,s3,s4,s5⟩,sz⟩:=HC.out.s)
  | (go_at_call 60;(with_reducible refine(HB.out.call ((HC.out.set0 (.int .i64 5)).set3 (.slice k5 k6 k7)).st HN.out).mono ?_);rintro e w3 ⟨v,rfl,hD,hG⟩
     obtain⟨A4,m4,q4,rfl⟩:=xF hG HN.out
     have HS:=hid (show jE _ fun a=>xQ (w.heap.size+2) w3 a _ from hG.imp fun a ha=>xQ.keep ha (zM.refl _ _) (by have:=HC.out.size;simp at this ⊢;omega))
     have HK:=hid (((zM.set (L:=w.heap.size+2) (g:=w.heap.size+1) (by omega) 0 (.int .i64 5)).trans (zM.set (g:=w.heap.size+1) (by omega) 3 (.slice k5 k6 k7))).trans (zM.did hD (by omega)))
     replace HC:=hid (((HC.out.set0 (.int .i64 5)).set3 (.slice k5 k6 k7)).step hD)
     clear hD hG
     obtain⟨⟨c0,c1,c2,c3,c4,c5⟩,fz⟩:=HC.out.own
     obtain⟨⟨s0,s1,s2,s3,s4,s5⟩,sz⟩:=HC.out.s))
 have HC2:=hid (HC.out.set4 (.slice A4 m4 q4))
 obtain⟨f0,f1,f2,f3,f4,f5⟩:=HC2.out.1.read (.int .i64 5) (.int .i64 0) (.string ⟨#[]⟩) (.slice k5 k6 k7) (.slice A4 m4 q4) (.slice none 0 0)
 refine bodyPost_ret (v:=.agg #[.int .i64 5,.int .i64 0,.string ⟨#[]⟩,.slice k5 k6 k7,.slice A4 m4 q4,.slice none 0 0]) (by simp[results,Tryd.results70,go_sem,f0,f1,f2,f3,f4,f5]) rfl ?_
 have hk:=(zM.set (L:=w.heap.size+2) (w:=w3) (g:=w.heap.size+1) (by omega) 4 (.slice A4 m4 q4)).trans (zM.nest6 (g:=w.heap.size) (by omega) (.int .i64 5) (.int .i64 0) (.string ⟨#[]⟩) (.slice k5 k6 k7) (.slice A4 m4 q4) (.slice none 0 0))
 refine HC2.out.fin (jN _ _ _) (q8 HF.out HS.out HN.out fun e t he ht=>?_)
 exact⟨_,_,_,rfl,jK.keep he (HK.out.trans hk) (by omega),xQ.keep ht hk (by omega),qV _ _⟩
theorem if_split {n:Nat} {d:Int} {r:List Tok}:((pI n r.tail).bind fun e r=>(pB n (d+1) r).bind fun t r=>vV n d e t r)=(ql ((PR.ok () r.tail).bind fun _ r=>pI n r) (fun r=>pB n (d+1) r) fun e t=>(e,t)).bind fun p r=>vV n d p.1 p.2 r:=by
 unfold ql
 simp only[zW,bind_ok']
theorem pstmt_if {b:Nat} {V:Value} {all r:List Tok} {w:World} {n:Nat} {d:Int} (hB:CB b V all n (d+1)) (h:zY b V all r false false w) (hd:0≤d∧d≤100) (hint:z9 x8 r=false) (hbool:z9 jf r=false) (hif:z9 sIf r=true) (hel:zS yD (ql ((PR.ok () r.tail).bind fun _ r=>pI n r) (fun r=>pB n (d+1) r) fun e t=>(e,t))=false) (hn:zG (pS (n+1) d r)):
 Calls Tryd.prog 70 #[.pointer (some ⟨b,0,none⟩),.int .i64 d] w (qM b V all w (pS (n+1) d r) (u7 w.heap.size)):=by
 obtain⟨hd0,hd1⟩:=hd
 have HC:=hid (kv.start (x:=.ok () r) h)
 have hbw:=h.lt
 have hdd:¬ 100<d:=by omega
 have ex:pS (n+1) d r=ql ((PR.ok () r.tail).bind fun _ r=>pI n r) (fun r=>pB n (d+1) r) fun e t=>St.mk 4 0 bE [e] t []:=by
  have h0:pS (n+1) d r=(ql ((PR.ok () r.tail).bind fun _ r=>pI n r) (fun r=>pB n (d+1) r) fun e t=>(e,t)).bind fun p r=>vV n d p.1 p.2 r:=by rw[pS,if_neg (by omega),if_neg (by rw[hint,hbool];decide),if_pos hif,if_split]
  rw[h0]at hn ⊢
  have h1:(ql ((PR.ok () r.tail).bind fun _ r=>pI n r) (fun r=>pB n (d+1) r) fun e t=>St.mk 4 0 bE [e] t [])=(ql ((PR.ok () r.tail).bind fun _ r=>pI n r) (fun r=>pB n (d+1) r) fun e t=>(e,t)).bind fun p r=>.ok (St.mk 4 0 bE [p.1] p.2 []) r:=by
   unfold ql
   simp only[zW,bind_ok']
  rw[h1]
  cases hx:(ql ((PR.ok () r.tail).bind fun _ r=>pI n r) (fun r=>pB n (d+1) r) fun e t=>(e,t)) with
  | ok p r2=>
    rw[hx]at hn hel
    cases n with
    | zero=>exact absurd (show zG (vV 0 d p.1 p.2 r2) from hn) (by rw[vV];exact id)
    | succ n=>
      show vV (n+1) d p.1 p.2 r2=.ok _ r2
      rw[vV,if_neg (by rw[show z9 yD r2=false from hel];decide)]
  | _=>rfl
 rw[ex]at hn ⊢
 have N0:=hid (show zS (⟨#[105,110,116]⟩:ByteArray).data.toList (PR.ok () r)=false from hint)
 have N1:=hid (show zS (⟨#[98,111,111,108]⟩:ByteArray).data.toList (PR.ok () r)=false from hbool)
 have Y0:=hid (show zS (⟨#[105,102]⟩:ByteArray).data.toList (PR.ok () r)=true from hif)
 have HN:=hid (qG hn)
 have HN2:=hid (zx hn)
 have HB:=hid hB
 have hiu:zS (⟨#[101,108,115,101]⟩:ByteArray).data.toList (((PR.ok () r.tail).bind fun _ r=>pI n r).un.bind fun _ r=>pB n (d+1) r).un=false:=by
  rw[←jN (F:=fun e t=>(e,t))]
  revert hel
  cases(ql ((PR.ok () r.tail).bind fun _ r=>pI n r) (fun r=>pB n (d+1) r) fun e t=>(e,t)) <;> exact id
 have HEL:=hid hiu
 clear h hn ex hB hel hiu hint hbool hif
 go_enter Tryd.func70,Tryd.ntmps70
 go_wp2_with (first
  | (go_at_call 59;(with_reducible refine(jM HC.out.st _ false N0.out).mono ?_);rintro e w1 ⟨rfl,hD⟩;replace HC:=hid (HC.out.step hD);clear hD)
  | (go_at_call 59;(with_reducible refine(jM HC.out.st _ false N1.out).mono ?_);rintro e w1 ⟨rfl,hD⟩;replace HC:=hid (HC.out.step hD);clear hD)
  | (go_at_call 43;(with_reducible refine(zl HC.out.st _ Y0.out).mono ?_);rintro e w1 ⟨rfl,hD⟩
     replace HC:=hid (show kv b V all w (.ok () r.tail) w1 _ _ _ _ _ _ from HC.out.step hD)
     clear hD
     obtain⟨⟨c0,c1,c2,c3,c4,c5⟩,fz⟩:=HC.out.own
     obtain⟨⟨s0,s1,s2,s3,s4,s5⟩,sz⟩:=HC.out.s)
  | (go_at_call 82;(with_reducible refine(uR HC.out.st HN2.out).mono ?_);rintro e w2 ⟨v,rfl,hD,hG⟩
     obtain⟨k5,k6,k7,rfl⟩:=one_form hG HN2.out
     have HF:=hid (show jE _ fun a=>jK (w.heap.size+2) w2 [a] (.slice k5 k6 k7) from hG.imp fun a ha=>jK.keep ha (zM.refl _ _) (by have:=HC.out.size;simp at this ⊢;omega))
     replace HC:=hid (HC.out.step hD)
     clear hD hG
     obtain⟨⟨c0,c1,c2,c3,c4,c5⟩,fz⟩:=HC.out.own
     obtain⟨⟨s0,s1,s2,s3,s4,s5⟩,sz⟩:=HC.out.s)
  | (go_at_call 60;(with_reducible refine(HB.out.call ((HC.out.set0 (.int .i64 4)).set3 (.slice k5 k6 k7)).st HN.out).mono ?_);rintro e w3 ⟨v,rfl,hD,hG⟩
     obtain⟨A4,m4,q4,rfl⟩:=xF hG HN.out
     have HS:=hid (show jE _ fun a=>xQ (w.heap.size+2) w3 a _ from hG.imp fun a ha=>xQ.keep ha (zM.refl _ _) (by have:=HC.out.size;simp at this ⊢;omega))
     have HK:=hid (((zM.set (L:=w.heap.size+2) (g:=w.heap.size+1) (by omega) 0 (.int .i64 4)).trans (zM.set (g:=w.heap.size+1) (by omega) 3 (.slice k5 k6 k7))).trans (zM.did hD (by omega)))
     replace HC:=hid (((HC.out.set0 (.int .i64 4)).set3 (.slice k5 k6 k7)).step hD)
     clear hD hG
     obtain⟨⟨c0,c1,c2,c3,c4,c5⟩,fz⟩:=HC.out.own
     obtain⟨⟨s0,s1,s2,s3,s4,s5⟩,sz⟩:=HC.out.s)
  | (go_at_call 43;(with_reducible refine(zF (HC.out.set4 (.slice A4 m4 q4)).st _ HEL.out).mono ?_);rintro e w4 ⟨rfl,hD⟩
     have HK4:=hid ((zM.set (L:=w.heap.size+2) (w:=w3) (g:=w.heap.size+1) (by omega) 4 (.slice A4 m4 q4)).trans (zM.did hD (by omega)))
     replace HC:=hid ((HC.out.set4 (.slice A4 m4 q4)).step hD)
     clear hD
     obtain⟨⟨c0,c1,c2,c3,c4,c5⟩,fz⟩:=HC.out.own
     obtain⟨⟨s0,s1,s2,s3,s4,s5⟩,sz⟩:=HC.out.s))
 obtain⟨f0,f1,f2,f3,f4,f5⟩:=HC.out.1.read (.int .i64 4) (.int .i64 0) (.string ⟨#[]⟩) (.slice k5 k6 k7) (.slice A4 m4 q4) (.slice none 0 0)
 refine bodyPost_ret (v:=.agg #[.int .i64 4,.int .i64 0,.string ⟨#[]⟩,.slice k5 k6 k7,.slice A4 m4 q4,.slice none 0 0]) (by simp[results,Tryd.results70,go_sem,f0,f1,f2,f3,f4,f5]) rfl ?_
 have hk:=HK4.out.trans (zM.nest6 (g:=w.heap.size) (by omega) (.int .i64 4) (.int .i64 0) (.string ⟨#[]⟩) (.slice k5 k6 k7) (.slice A4 m4 q4) (.slice none 0 0))
 refine HC.out.fin (jN _ _ _) (q8 HF.out HS.out HN.out fun e t he ht=>?_)
 exact⟨_,_,_,rfl,jK.keep he (HK.out.trans hk) (by omega),xQ.keep ht hk (by omega),qV _ _⟩
theorem stmt_else {b:Nat} {V:Value} {all r:List Tok} {w:World} {n:Nat} {d:Int} {q:Nat} {p:Ex × List St} {r2:List Tok} (hnq:n=q+1) (hB:CB b V all n (d+1)) (hB2:CB b V all q (d+1)) (h:zY b V all r false false w) (hd:0≤d∧d≤100) (hint:z9 x8 r=false) (hbool:z9 jf r=false) (hif:z9 sIf r=true) (hA:(ql ((PR.ok () r.tail).bind fun _ r=>pI n r) (fun r=>pB n (d+1) r) fun e t=>(e,t))=.ok p r2) (hel:z9 yD r2=true) (hn:zG (pS (n+1) d r)):
 Calls Tryd.prog 70 #[.pointer (some ⟨b,0,none⟩),.int .i64 d] w (qM b V all w (pS (n+1) d r) (u7 w.heap.size)):=by
 obtain⟨hd0,hd1⟩:=hd
 have HC:=hid (kv.start (x:=.ok () r) h)
 have hbw:=h.lt
 have hdd:¬ 100<d:=by omega
 have ex:pS (n+1) d r=(pB q (d+1) r2.tail).bind fun u r=>.ok (St.mk 4 0 bE [p.1] p.2 u) r:=by
  have h0:pS (n+1) d r=(ql ((PR.ok () r.tail).bind fun _ r=>pI n r) (fun r=>pB n (d+1) r) fun e t=>(e,t)).bind fun p r=>vV n d p.1 p.2 r:=by rw[pS,if_neg (by omega),if_neg (by rw[hint,hbool];decide),if_pos hif,if_split]
  rw[h0,hA,hnq]
  show vV (q+1) d p.1 p.2 r2=_
  rw[vV,if_pos hel]
 rw[ex]at hn ⊢
 have N0:=hid (show zS (⟨#[105,110,116]⟩:ByteArray).data.toList (PR.ok () r)=false from hint)
 have N1:=hid (show zS (⟨#[98,111,111,108]⟩:ByteArray).data.toList (PR.ok () r)=false from hbool)
 have Y0:=hid (show zS (⟨#[105,102]⟩:ByteArray).data.toList (PR.ok () r)=true from hif)
 have hAE:zG (ql ((PR.ok () r.tail).bind fun _ r=>pI n r) (fun r=>pB n (d+1) r) fun e t=>(e,t)):=by rw[hA];trivial
 have HN:=hid (qG hAE)
 have HN2:=hid (zx hAE)
 have HN5:=hid (show zG ((PR.ok () r2.tail).bind fun _ r=>pB q (d+1) r) from zv hn)
 have HB:=hid hB
 have HB2:=hid hB2
 have HA:=hid hA
 have HEQ:=hid (show (((PR.ok () r.tail).bind fun _ r=>pI n r).un.bind fun _ r=>pB n (d+1) r).un=.ok () r2 by rw[←jN (F:=fun e t=>(e,t)),hA];rfl)
 have HEL:=hid (show zS (⟨#[101,108,115,101]⟩:ByteArray).data.toList (PR.ok () r2)=true from hel)
 clear h hn ex hB hB2 hel hA hAE hint hbool hif
 go_enter Tryd.func70,Tryd.ntmps70
 go_wp2_with (first
  | (go_at_call 59;(with_reducible refine(jM HC.out.st _ false N0.out).mono ?_);rintro e w1 ⟨rfl,hD⟩;replace HC:=hid (HC.out.step hD);clear hD)
  | (go_at_call 59;(with_reducible refine(jM HC.out.st _ false N1.out).mono ?_);rintro e w1 ⟨rfl,hD⟩;replace HC:=hid (HC.out.step hD);clear hD)
  | (go_at_call 43;(with_reducible refine(zl HC.out.st _ Y0.out).mono ?_);rintro e w1 ⟨rfl,hD⟩
     replace HC:=hid (show kv b V all w (.ok () r.tail) w1 _ _ _ _ _ _ from HC.out.step hD)
     clear hD
     obtain⟨⟨c0,c1,c2,c3,c4,c5⟩,fz⟩:=HC.out.own
     obtain⟨⟨s0,s1,s2,s3,s4,s5⟩,sz⟩:=HC.out.s)
  | (go_at_call 82;(with_reducible refine(uR HC.out.st HN2.out).mono ?_);rintro e w2 ⟨v,rfl,hD,hG⟩
     obtain⟨k5,k6,k7,rfl⟩:=one_form hG HN2.out
     have HF:=hid (show jE _ fun a=>jK (w.heap.size+2) w2 [a] (.slice k5 k6 k7) from hG.imp fun a ha=>jK.keep ha (zM.refl _ _) (by have:=HC.out.size;simp at this ⊢;omega))
     replace HC:=hid (HC.out.step hD)
     clear hD hG
     obtain⟨⟨c0,c1,c2,c3,c4,c5⟩,fz⟩:=HC.out.own
     obtain⟨⟨s0,s1,s2,s3,s4,s5⟩,sz⟩:=HC.out.s)
  | (go_at_call 60;(with_reducible refine(HB.out.call ((HC.out.set0 (.int .i64 4)).set3 (.slice k5 k6 k7)).st HN.out).mono ?_);rintro e w3 ⟨v,rfl,hD,hG⟩
     obtain⟨A4,m4,q4,rfl⟩:=xF hG HN.out
     have HS:=hid (show jE _ fun a=>xQ (w.heap.size+2) w3 a _ from hG.imp fun a ha=>xQ.keep ha (zM.refl _ _) (by have:=HC.out.size;simp at this ⊢;omega))
     have HK:=hid (((zM.set (L:=w.heap.size+2) (g:=w.heap.size+1) (by omega) 0 (.int .i64 4)).trans (zM.set (g:=w.heap.size+1) (by omega) 3 (.slice k5 k6 k7))).trans (zM.did hD (by omega)))
     replace HC:=hid (show kv b V all w (.ok () r2) w3 _ _ _ _ _ _ by have h9:=((HC.out.set0 (.int .i64 4)).set3 (.slice k5 k6 k7)).step hD;rw[HEQ.out]at h9;exact h9)
     clear hD hG
     obtain⟨⟨c0,c1,c2,c3,c4,c5⟩,fz⟩:=HC.out.own
     obtain⟨⟨s0,s1,s2,s3,s4,s5⟩,sz⟩:=HC.out.s)
  | (go_at_call 43;(with_reducible refine(zl (HC.out.set4 (.slice A4 m4 q4)).st _ HEL.out).mono ?_);rintro e w4 ⟨rfl,hD⟩
     have HK4:=hid ((zM.set (L:=w.heap.size+2) (w:=w3) (g:=w.heap.size+1) (by omega) 4 (.slice A4 m4 q4)).trans (zM.did hD (by omega)))
     replace HC:=hid (show kv b V all w (.ok () r2.tail) w4 _ _ _ _ _ _ from(HC.out.set4 (.slice A4 m4 q4)).step hD)
     clear hD
     obtain⟨⟨c0,c1,c2,c3,c4,c5⟩,fz⟩:=HC.out.own
     obtain⟨⟨s0,s1,s2,s3,s4,s5⟩,sz⟩:=HC.out.s)
  | (go_at_call 60;(with_reducible refine(HB2.out.call HC.out.st HN5.out).mono ?_);rintro e w5 ⟨v,rfl,hD,hG⟩
     obtain⟨A5,m5,q5,rfl⟩:=xF hG HN5.out
     have HS5:=hid (show jE _ fun a=>xQ (w.heap.size+2) w5 a _ from hG.imp fun a ha=>xQ.keep ha (zM.refl _ _) (by have:=HC.out.size;simp at this ⊢;omega))
     have HK5:=hid (HK4.out.trans (zM.did hD (by omega)))
     replace HC:=hid (HC.out.step hD)
     clear hD hG
     obtain⟨⟨c0,c1,c2,c3,c4,c5⟩,fz⟩:=HC.out.own
     obtain⟨⟨s0,s1,s2,s3,s4,s5⟩,sz⟩:=HC.out.s))
 have HC2:=hid (HC.out.set5 (.slice A5 m5 q5))
 obtain⟨f0,f1,f2,f3,f4,f5⟩:=HC2.out.1.read (.int .i64 4) (.int .i64 0) (.string ⟨#[]⟩) (.slice k5 k6 k7) (.slice A4 m4 q4) (.slice A5 m5 q5)
 refine bodyPost_ret (v:=.agg #[.int .i64 4,.int .i64 0,.string ⟨#[]⟩,.slice k5 k6 k7,.slice A4 m4 q4,.slice A5 m5 q5]) (by simp[results,Tryd.results70,go_sem,f0,f1,f2,f3,f4,f5]) rfl ?_
 have hk:=(zM.set (L:=w.heap.size+2) (w:=w5) (g:=w.heap.size+1) (by omega) 5 (.slice A5 m5 q5)).trans (zM.nest6 (g:=w.heap.size) (by omega) (.int .i64 4) (.int .i64 0) (.string ⟨#[]⟩) (.slice k5 k6 k7) (.slice A4 m4 q4) (.slice A5 m5 q5))
 have hp:=q8 (F:=fun e t=>(e,t)) (Q:=fun p:Ex × List St=>jK (w.heap.size+2) w2 [p.1] (.slice k5 k6 k7)∧xQ (w.heap.size+2) w3 p.2 (.slice A4 m4 q4)) HF.out HS.out HN.out fun e t he ht=>⟨he,ht⟩
 rw[HA.out]at hp
 obtain⟨he,ht⟩:=hp
 refine HC2.out.fin (by rw[jP];rfl) (jE.bind HS5.out (fun u r _ hu=>?_) fun u hu=>⟨St.mk 4 0 bE [p.1] p.2 u,?_⟩)
 all_goals exact⟨_,_,_,rfl,jK.keep he (HK.out.trans (HK5.out.trans hk)) (by omega),xQ.keep ht (HK5.out.trans hk) (by omega),xQ.keep hu hk (by omega)⟩
theorem kv.deepen {b:Nat} {V:Value} {all r:List Tok} {w:World} (h:zY b V all r false false w):kv b V all w (.deep r) (((w.setCell ⟨b,3,none⟩ (.bool true)).alloc vz).alloc vz) (.int .i64 0) (.int .i64 0) (.string ⟨#[]⟩) (.slice none 0 0) (.slice none 0 0) (.slice none 0 0):=by
 have hd:q7 b V all w (.deep r) (w.setCell ⟨b,3,none⟩ (.bool true)):=⟨h.deepen,(OffB.refl b _ _).setb h.lt 3 _⟩
 refine⟨⟨(hd.alloc _).alloc _,?_,h.2.1,h.lt⟩,?_⟩
 · refine jL ?_ _
   have:=heap_alloc_new (w.setCell ⟨b,3,none⟩ (.bool true)) vz
   rw[jp]at this
   exact this
 · have:=heap_alloc_new ((w.setCell ⟨b,3,none⟩ (.bool true)).alloc vz) vz
   rw[zA,jp]at this
   exact this
theorem stmt_deep {b:Nat} {V:Value} {all r:List Tok} {w:World} {n:Nat} {d:Int} (h:zY b V all r false false w) (hd:0≤d∧d≤1000) (hd2:100<d) (hn:zG (pS (n+1) d r)):
 Calls Tryd.prog 70 #[.pointer (some ⟨b,0,none⟩),.int .i64 d] w (qM b V all w (pS (n+1) d r) (u7 w.heap.size)):=by
 have ex:pS (n+1) d r=.deep r:=by rw[pS,if_pos hd2]
 rw[ex]
 have f3:=h.1.frozen 3
 obtain⟨_,_,b2,b3⟩:=h.cells
 have hbw:=h.lt
 have HC:=hid (kv.deepen h)
 clear h hn ex
 have N0:=hid (show zS (⟨#[105,110,116]⟩:ByteArray).data.toList (PR.deep r:PR Unit)=false from rfl)
 have N1:=hid (show zS (⟨#[98,111,111,108]⟩:ByteArray).data.toList (PR.deep r:PR Unit)=false from rfl)
 have N2:=hid (show zS (⟨#[105,102]⟩:ByteArray).data.toList (PR.deep r:PR Unit)=false from rfl)
 have N3:=hid (show zS (⟨#[119,104,105,108,101]⟩:ByteArray).data.toList (PR.deep r:PR Unit)=false from rfl)
 have N4:=hid (show zS (⟨#[98,114,101,97,107]⟩:ByteArray).data.toList (PR.deep r:PR Unit)=false from rfl)
 have N5:=hid (show zS (⟨#[99,111,110,116,105,110,117,101]⟩:ByteArray).data.toList (PR.deep r:PR Unit)=false from rfl)
 have N6:=hid (show zS (⟨#[114,101,116,117,114,110]⟩:ByteArray).data.toList (PR.deep r:PR Unit)=false from rfl)
 have N7:=hid (show zS (⟨#[112,114,105,110,116]⟩:ByteArray).data.toList (PR.deep r:PR Unit)=false from rfl)
 have HN2:=hid (show zG ((PR.deep r:PR Unit).bind fun _ r=>pNm 0 r) from trivial)
 go_enter Tryd.func70,Tryd.ntmps70
 go_wp2_with (first
  | (go_at_call 59;(with_reducible refine(jM HC.out.st _ false N0.out).mono ?_);rintro e w1 ⟨rfl,hD⟩;replace HC:=hid (HC.out.step hD);clear hD)
  | (go_at_call 59;(with_reducible refine(jM HC.out.st _ false N1.out).mono ?_);rintro e w1 ⟨rfl,hD⟩;replace HC:=hid (HC.out.step hD);clear hD)
  | (go_at_call 43;(with_reducible refine(zF HC.out.st _ N2.out).mono ?_);rintro e w1 ⟨rfl,hD⟩
     replace HC:=hid (HC.out.step hD)
     clear hD
     obtain⟨⟨c0,c1,c2,c3,c4,c5⟩,fz⟩:=HC.out.own
     obtain⟨⟨s0,s1,s2,s3,s4,s5⟩,sz⟩:=HC.out.s)
  | (go_at_call 43;(with_reducible refine(zF HC.out.st _ N3.out).mono ?_);rintro e w1 ⟨rfl,hD⟩
     replace HC:=hid (HC.out.step hD)
     clear hD
     obtain⟨⟨c0,c1,c2,c3,c4,c5⟩,fz⟩:=HC.out.own
     obtain⟨⟨s0,s1,s2,s3,s4,s5⟩,sz⟩:=HC.out.s)
  | (go_at_call 43;(with_reducible refine(zF HC.out.st _ N4.out).mono ?_);rintro e w1 ⟨rfl,hD⟩
     replace HC:=hid (HC.out.step hD)
     clear hD
     obtain⟨⟨c0,c1,c2,c3,c4,c5⟩,fz⟩:=HC.out.own
     obtain⟨⟨s0,s1,s2,s3,s4,s5⟩,sz⟩:=HC.out.s)
  | (go_at_call 43;(with_reducible refine(zF HC.out.st _ N5.out).mono ?_);rintro e w1 ⟨rfl,hD⟩
     replace HC:=hid (HC.out.step hD)
     clear hD
     obtain⟨⟨c0,c1,c2,c3,c4,c5⟩,fz⟩:=HC.out.own
     obtain⟨⟨s0,s1,s2,s3,s4,s5⟩,sz⟩:=HC.out.s)
  | (go_at_call 43;(with_reducible refine(zF HC.out.st _ N6.out).mono ?_);rintro e w1 ⟨rfl,hD⟩
     replace HC:=hid (HC.out.step hD)
     clear hD
     obtain⟨⟨c0,c1,c2,c3,c4,c5⟩,fz⟩:=HC.out.own
     obtain⟨⟨s0,s1,s2,s3,s4,s5⟩,sz⟩:=HC.out.s)
  | (go_at_call 43;(with_reducible refine(zF HC.out.st _ N7.out).mono ?_);rintro e w1 ⟨rfl,hD⟩
     replace HC:=hid (HC.out.step hD)
     clear hD
     obtain⟨⟨c0,c1,c2,c3,c4,c5⟩,fz⟩:=HC.out.own
     obtain⟨⟨s0,s1,s2,s3,s4,s5⟩,sz⟩:=HC.out.s)
  | (go_at_call 83;(with_reducible refine(named_any HC.out.st HN2.out).mono ?_);rintro e w2 ⟨v,rfl,hD,hG⟩
     obtain⟨k0,k1,k2,A3,m3,q3,A4,m4,q4,A5,m5,q5,rfl⟩:=gots_form hG HN2.out
     have HF:=hid (show ∃ a,u7 (w.heap.size+2) w2 a _ by obtain⟨a,ha⟩:=hG;exact⟨a,u7.keep ha (zM.refl _ _) (by have:=HC.out.size;simp at this ⊢;omega)⟩)
     replace HC:=hid (show kv b V all w (.deep r) w2 _ _ _ _ _ _ from HC.out.step hD)
     clear hD hG
     obtain⟨⟨c0,c1,c2,c3,c4,c5⟩,fz⟩:=HC.out.own
     obtain⟨⟨s0,s1,s2,s3,s4,s5⟩,sz⟩:=HC.out.s)
  | (go_at_call 45;(with_reducible refine(zb ((((((HC.out.set0 (.int .i64 k0)).set1 (.int .i64 k1)).set2 (.string k2)).set3 (.slice A3 m3 q3)).set4 (.slice A4 m4 q4)).set5 (.slice A5 m5 q5)).st ⟨#[59]⟩).mono ?_);rintro e w9 ⟨rfl,hD⟩
     have HK:=hid ((zM.nest6 (L:=w.heap.size+2) (g:=w.heap.size+1) (by omega) (.int .i64 k0) (.int .i64 k1) (.string k2) (.slice A3 m3 q3) (.slice A4 m4 q4) (.slice A5 m5 q5)).trans (zM.did hD (by omega)))
     replace HC:=hid (((((((HC.out.set0 (.int .i64 k0)).set1 (.int .i64 k1)).set2 (.string k2)).set3 (.slice A3 m3 q3)).set4 (.slice A4 m4 q4)).set5 (.slice A5 m5 q5)).step hD)
     have hz9:=HC.out.size
     clear hD
     obtain⟨⟨c0,c1,c2,c3,c4,c5⟩,fz⟩:=HC.out.own
     obtain⟨⟨s0,s1,s2,s3,s4,s5⟩,sz⟩:=HC.out.s))
 obtain⟨f0,f1,f2,f3,f4,f5⟩:=HC.out.1.read (.int .i64 k0) (.int .i64 k1) (.string k2) (.slice A3 m3 q3) (.slice A4 m4 q4) (.slice A5 m5 q5)
 refine bodyPost_ret (v:=.agg #[.int .i64 k0,.int .i64 k1,.string k2,.slice A3 m3 q3,.slice A4 m4 q4,.slice A5 m5 q5]) (by simp[results,Tryd.results70,go_sem,f0,f1,f2,f3,f4,f5]) rfl ?_
 refine HC.out.fin rfl ?_
 obtain⟨a,ha⟩:=HF.out
 exact⟨a,u7.keep ha (HK.out.trans (zM.nest6 (by omega) _ _ _ _ _ _)) (by omega)⟩
theorem pstmt_any {b:Nat} {V:Value} {all r:List Tok} {w:World} {n:Nat} {d:Int} (hB:d≤100→∀ m,m≤n→CB b V all m (d+1)) (h:zY b V all r false false w) (hd:0≤d∧d≤1000) (hn:zG (pS (n+1) d r)):
 Calls Tryd.prog 70 #[.pointer (some ⟨b,0,none⟩),.int .i64 d] w (qM b V all w (pS (n+1) d r) (u7 w.heap.size)):=by
 by_cases hd2:d≤100
 · have hd':0≤d∧d≤100:=⟨hd.1,hd2⟩
   have hBn:=hB hd2 n (Nat.le_refl _)
   cases h0:z9 x8 r with
   | true=>exact stmt_int h hd' h0 hn
   | false=>
     cases h1:z9 jf r with
     | true=>exact stmt_bool h hd' h0 h1 hn
     | false=>
       cases h2:z9 sIf r with
       | true=>
         cases hA:(ql ((PR.ok () r.tail).bind fun _ r=>pI n r) (fun r=>pB n (d+1) r) fun e t=>(e,t)) with
         | ok p r2=>
           cases hel:z9 yD r2 with
           | true=>
             cases n with
             | zero=>
               rw[pS,if_neg (by omega),if_neg (by rw[h0,h1];decide),if_pos h2,if_split,hA]at hn
               exact absurd (show zG (vV 0 d p.1 p.2 r2) from hn) (by rw[vV];exact id)
             | succ q=>exact stmt_else rfl hBn (hB hd2 q (by omega)) h hd' h0 h1 h2 hA hel hn
           | false=>exact pstmt_if hBn h hd' h0 h1 h2 (by rw[hA];exact hel) hn
         | bad r2=>exact pstmt_if hBn h hd' h0 h1 h2 (by rw[hA];rfl) hn
         | deep r2=>exact pstmt_if hBn h hd' h0 h1 h2 (by rw[hA];rfl) hn
         | out=>exact pstmt_if hBn h hd' h0 h1 h2 (by rw[hA];rfl) hn
       | false=>
         cases h3:z9 kH r with
         | true=>exact pstmt_while hBn h hd' h0 h1 h2 h3 hn
         | false=>
           cases h4:z9 xd r with
           | true=>exact pstmt_break h hd' h0 h1 h2 h3 h4 hn
           | false=>
             cases h5:z9 u6 r with
             | true=>exact stmt_continue h hd' h0 h1 h2 h3 h4 h5 hn
             | false=>
               cases h6:z9 sRet r with
               | true=>exact pstmt_return h hd' h0 h1 h2 h3 h4 h5 h6 hn
               | false=>
                 cases h7:z9 yN r with
                 | true=>exact pstmt_print h hd' h0 h1 h2 h3 h4 h5 h6 h7 hn
                 | false=>exact stmt_name h hd' h0 h1 h2 h3 h4 h5 h6 h7 hn
 · exact stmt_deep h hd (by omega) hn
end Go.Proofs.YtndgkfkieogplaaDoor
