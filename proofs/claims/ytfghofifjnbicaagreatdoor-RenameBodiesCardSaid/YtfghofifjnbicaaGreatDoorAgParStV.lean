import Derived.Test.YtfghofifjnbicaaGreatDoorAgParUnL
import Derived.Deep.RegionHeld3
set_option linter.unusedSimpArgs false
set_option linter.unusedVariables false
set_option maxRecDepth 100000
/- Statements' values in new blocks; an expression in brackets. -/
namespace Go.Proofs.YtfghofifjnbicaaGreatDoor
open Lib (hid)
open Go.RowKit
abbrev yW:Obj:=.cells #[.int .i64 0,.int .i64 0,.string ⟨#[]⟩,.slice none 0 0,.slice none 0 0,.slice none 0 0] 88
abbrev st0V:Value:=.agg #[.int .i64 0,.int .i64 0,.string ⟨#[]⟩,.slice none 0 0,.slice none 0 0,.slice none 0 0]
def yJ (L:Nat) (w:World) (a:St) (v:Value):Prop:=
 match a with
 | .mk k ty name args thn els=>∃ v3 v4 v5,v=.agg #[.int .i64 k,.int .i64 ty,.string name,v3,v4,v5]∧zS L w args v3∧zU L w thn v4∧zU L w els v5
theorem yJ.keep {L M:Nat} {w w':World} {a:St} {v:Value} (h:yJ L w a v) (k:zD L w w') (hM:M≤L):yJ M w' a v:=by
 obtain⟨kk,ty,name,args,thn,els⟩:=a;obtain⟨v3,v4,v5,hv,h3,h4,h5⟩:=h;exact⟨v3,v4,v5,hv,h3.keep k hM,h4.keep k hM,h5.keep k hM⟩
theorem yJ.form {L:Nat} {w:World} {a:St} {v:Value} (h:yJ L w a v):∃ k t s A3 m3 c3 A4 m4 c4 A5 m5 c5,v=.agg #[.int .i64 k,.int .i64 t,.string s,.slice A3 m3 c3,.slice A4 m4 c4,.slice A5 m5 c5]:=by
 obtain⟨kk,ty,name,args,thn,els⟩:=a;obtain⟨v3,v4,v5,hv,h3,h4,h5⟩:=h;obtain⟨A3,c3,rfl,_⟩:=h3.form;obtain⟨A4,c4,rfl,_⟩:=h4.form;obtain⟨A5,c5,rfl,_⟩:=h5.form;exact⟨_,_,_,_,_,_,_,_,_,_,_,_,hv⟩
theorem gots_form {L:Nat} {w:World} {x:PR St} {v:Value} (h:qo x fun a=>yJ L w a v) (he:zG x):∃ k t s A3 m3 c3 A4 m4 c4 A5 m5 c5,v=.agg #[.int .i64 k,.int .i64 t,.string s,.slice A3 m3 c3,.slice A4 m4 c4,.slice A5 m5 c5]:=by
 obtain⟨a,ha⟩:=h.some he;exact ha.form
theorem kG {L:Nat} {w:World} {x:PR (List St)} {v:Value} (h:qo x fun a=>zU L w a v) (he:zG x):∃ A m c,v=.slice A m c:=by
 obtain⟨a,ha⟩:=h.some he;obtain⟨A,c,hv,_⟩:=ha.form;exact⟨A,_,c,hv⟩
theorem frEs_nil (L:Nat) (w:World):zS L w [] (.slice none 0 0):=xt _ _
theorem qM (L:Nat) (w:World):zU L w [] (.slice none 0 0):=slS_nil _ _
theorem xF {b:Nat} {V:Value} {all:List Tok} {x:PR Unit} {w:World} (h:jA b V all x w) (k:Int) (hk3:k≠3):
 Calls Tryz.prog 41 #[.pointer (some ⟨b,0,none⟩),.int .i64 k] w fun e w'=>∃ s,e=.returned (.string s)∧qV b V all w (x.bind fun _ r=>qQ k r).un w'∧qo (x.bind fun _ r=>qQ k r) fun a=>a=s:=by
 cases x with
 | ok u r=>
   refine(text_live h k hk3).mono fun e w' ⟨v,he,hD,hG⟩=>?_
   show ∃ s,_∧qV b V all w (qQ k r).un w'∧qo (qQ k r) _;unfold qQ at hD hG ⊢;by_cases hk:yq r=k
   · rw[if_pos hk]at hD hG ⊢
     exact⟨_,by rw[he,show v=_ from hG],hD,rfl⟩
   · rw[if_neg hk]at hD hG ⊢
     obtain⟨a,ha⟩:=hG;exact⟨a,by rw[he,show v=_ from ha],hD,a,rfl⟩
 | bad r=>exact(text_over h rfl k).mono fun e w' ⟨he,hD⟩=>⟨_,he,hD,_,rfl⟩
 | deep r=>exact(text_over h rfl k).mono fun e w' ⟨he,hD⟩=>⟨_,he,hD,_,rfl⟩
 | out=>exact absurd h id
def OneF (L:Nat) (w:World) (a:Ex) (v:Value):Prop:=zS L w [a] v
theorem pI_assoc (n:Nat) (x:PR Unit):(x.bind fun _ r=>pI n r)=((x.bind fun _ r=>zL [40] r).bind fun _ r=>pE n 1 1 r).bind fun e r=>(zL [41] r).bind fun _ r=>.ok e r:=by
 rw[zR,zR];rfl
theorem yj {b:Nat} {V:Value} {all:List Tok} {n:Nat} {x:PR Unit} {w:World} (h:jA b V all x w) (hn:zG (x.bind fun _ r=>pI n r)):
 Calls Tryz.prog 98 #[.pointer (some ⟨b,0,none⟩)] w (qG b V all w (x.bind fun _ r=>pI n r) (OneF w.heap.size)):=by
 rw[pI_assoc]at hn ⊢;have HN:=hid (zo hn);have HD:=hid (show qV b V all w x w from⟨h,OffB.refl _ _ _⟩);have hbw:=h.lt;have HE:=hid (xZ (b:=b) (V:=V) (all:=all) (n:=n) (d:=1) (by decide) (by decide));clear h hn;go_enter Tryz.func98,Tryz.ntmps98
 go_wp2_with (first
  | (go_at_call 44;(with_reducible refine(zX HD.out.st ⟨#[40]⟩).mono ?_);rintro e w1 ⟨rfl,hD⟩
     replace HD:=hid (show qV b V all w (x.bind fun _ r=>zL [40] r) w1 from HD.out.after hD);have hz1:=HD.out.off.size
     clear hD)
  | (go_at_call 97;(with_reducible refine(HE.out.call HD.out.st HN.out).mono ?_);rintro e w2 ⟨v,rfl,hD,hG⟩
     obtain⟨k1,k2,k3,k4,k5,k6,k7,rfl⟩:=qT hG HN.out;have HG:=hid hG;have hb1:=HD.out.st.lt;replace HD:=hid (HD.out.after hD);have hb2:w2.heap.size≠b:=by have:=HD.out.st.lt;omega
     have hz2:=HD.out.off.size
     clear hD hG)
  | (go_at_call 44;(with_reducible refine(zX (HD.out.alloc _).st ⟨#[41]⟩).mono ?_);rintro e w3 ⟨rfl,hD⟩
     have HK:=hid ((zD.of_below (L:=w1.heap.size) ((Below.refl _ _).alloc (Nat.le_refl _) _)).trans (zD.did hD hb1));obtain⟨p3,r3⟩:=off_own hD.off (k:=w2.heap.size) (by simp) hb2;replace HD:=hid ((HD.out.alloc _).after hD);have hz3:=HD.out.off.size
     clear hD))
 go_ret;refine⟨_,rfl,?_,qo.bind HG.out (fun a r _ ha=>xh (yG (jf.keep ha HK.out (Nat.le_refl _)) hz1 hz3 rfl)) fun a ha=>⟨a,yG (jf.keep ha HK.out (Nat.le_refl _)) hz1 hz3 rfl⟩⟩;rw[qu];simp only[kE];rw[←bind_un];exact HD.out.alloc _
abbrev yr (W:World) (g:Nat) (c0 c1 c2 c3 c4 c5:Value):World:=((((((W.setCell ⟨g,0,none⟩ c0).setCell ⟨g,1,none⟩ c1).setCell ⟨g,2,none⟩ c2).setCell ⟨g,3,none⟩ c3).setCell ⟨g,4,none⟩ c4).setCell ⟨g,5,none⟩ c5)
theorem ks (W:World) (g:Nat) (c0 c1 c2 c3 c4 c5:Value):(yr W g c0 c1 c2 c3 c4 c5).heap.size=W.heap.size:=by simp[yr]
theorem nest6_row {W:World} {g:Nat} {d0 d1 d2 d3 d4 d5:Value} {T:TypeId} {fr:Nat × Nat} (hb:W.heap[g]? =some (.cells #[d0,d1,d2,d3,d4,d5] T fr)) (c0 c1 c2 c3 c4 c5:Value):(yr W g c0 c1 c2 c3 c4 c5).heap[g]? =some (.cells #[c0,c1,c2,c3,c4,c5] T fr):=
 Lib.heap_setCell_same (Lib.heap_setCell_same (Lib.heap_setCell_same (Lib.heap_setCell_same (Lib.heap_setCell_same (Lib.heap_setCell_same hb c0) c1) c2) c3) c4) c5
theorem nest6_other {W:World} {g k:Nat} (hk:k≠g) (c0 c1 c2 c3 c4 c5:Value):(yr W g c0 c1 c2 c3 c4 c5).heap[k]? =W.heap[k]?:=by
 rw[Below.heap_setCell _ _ _ _ (by show k≠g;exact hk),Below.heap_setCell _ _ _ _ (by show k≠g;exact hk),Below.heap_setCell _ _ _ _ (by show k≠g;exact hk),Below.heap_setCell _ _ _ _ (by show k≠g;exact hk),Below.heap_setCell _ _ _ _ (by show k≠g;exact hk),Below.heap_setCell _ _ _ _ (by show k≠g;exact hk)]
theorem zD.nest6 {L g:Nat} {w:World} (hg:g<L) (c0 c1 c2 c3 c4 c5:Value):zD L w (yr w g c0 c1 c2 c3 c4 c5):=
 (((((zD.set hg 0 c0).trans (zD.set hg 1 c1)).trans (zD.set hg 2 c2)).trans (zD.set hg 3 c3)).trans (zD.set hg 4 c4)).trans (zD.set hg 5 c5)
theorem zO {W:World} {g:Nat} {c0 c1 c2 c3 c4 c5:Value} {T:TypeId} (h:W.heap[g]? =some (.cells #[c0,c1,c2,c3,c4,c5] T (0,0))):
 (W.cell? ⟨g,0,none⟩=some c0∧W.cell? ⟨g,1,none⟩=some c1∧W.cell? ⟨g,2,none⟩=some c2∧W.cell? ⟨g,3,none⟩=some c3∧W.cell? ⟨g,4,none⟩=some c4∧W.cell? ⟨g,5,none⟩=some c5)∧∀ o,W.frozen? ⟨g,o,none⟩=false:=by
 refine⟨⟨(Lib.cell_of_heap h 0).trans rfl,(Lib.cell_of_heap h 1).trans rfl,(Lib.cell_of_heap h 2).trans rfl,(Lib.cell_of_heap h 3).trans rfl,(Lib.cell_of_heap h 4).trans rfl,(Lib.cell_of_heap h 5).trans rfl⟩,fun o=>?_⟩;simp[World.frozen?,h]
def qp (b:Nat) (V:Value) (all:List Tok) (w:World) (x:PR Unit) (W:World):Prop:=qV b V all w x W∧W.heap[w.heap.size]? =some yW∧vO b V all w∧b<w.heap.size
section
variable {b:Nat} {V:Value} {all:List Tok} {w W W':World} {x y:PR Unit}
theorem qp.start (h:jA b V all x w):qp b V all w x (w.alloc yW):=
 ⟨⟨h.below ((Below.refl _ _).alloc (Nat.le_refl _) _),OffB.of_below ((Below.refl _ _).alloc (Nat.le_refl _) _) h.lt⟩,heap_alloc_new w yW,h.tok,h.lt⟩
theorem qp.did (h:qp b V all w x W):qV b V all w x W:=h.1
theorem qp.st (h:qp b V all w x W):jA b V all x W:=h.1.1
theorem qp.size (h:qp b V all w x W):w.heap.size<W.heap.size:=(Array.getElem?_eq_some_iff.1 h.2.1).1
theorem qp.ne (h:qp b V all w x W):w.heap.size≠b:=by have:=h.2.2.2;omega
theorem qp.lt (h:qp b V all w x W):b<w.heap.size:=h.2.2.2
theorem qp.tok (h:qp b V all w x W):vO b V all w:=h.2.2.1
theorem qp.step (h:qp b V all w x W) (g:qV b V all W y W'):qp b V all w y W':=⟨h.1.after g,qY g.off h.size h.ne h.2.1,h.2.2⟩
theorem qp.alloc (h:qp b V all w x W) (o:Obj):qp b V all w x (W.alloc o):=⟨h.1.alloc o,zc h.2.1 o,h.2.2⟩
theorem qp.own (h:qp b V all w x W):(W.cell? ⟨w.heap.size,0,none⟩=some (.int .i64 0)∧W.cell? ⟨w.heap.size,1,none⟩=some (.int .i64 0)∧W.cell? ⟨w.heap.size,2,none⟩=some (.string ⟨#[]⟩)∧
 W.cell? ⟨w.heap.size,3,none⟩=some (.slice none 0 0)∧W.cell? ⟨w.heap.size,4,none⟩=some (.slice none 0 0)∧W.cell? ⟨w.heap.size,5,none⟩=some (.slice none 0 0))∧∀ o,W.frozen? ⟨w.heap.size,o,none⟩=false:=zO h.2.1
theorem qp.set (h:qp b V all w x W) {g:Nat} (hg:w.heap.size<g) (i:Nat) (u:Value):qp b V all w x (W.setCell ⟨g,i,none⟩ u):=
 ⟨h.1.set h.2.2.1 (by omega) (by have:=h.2.2.2;omega) i u,(Below.heap_setCell W _ u _ (by show w.heap.size≠g;omega)).trans h.2.1,h.2.2⟩
theorem qV.nest6 (h:qV b V all w x W) (ht:vO b V all w) {g:Nat} (hg:w.heap.size≤g) (hb:g≠b) (c0 c1 c2 c3 c4 c5:Value):qV b V all w x (yr W g c0 c1 c2 c3 c4 c5):=
 (((((h.set ht hg hb 0 c0).set ht hg hb 1 c1).set ht hg hb 2 c2).set ht hg hb 3 c3).set ht hg hb 4 c4).set ht hg hb 5 c5
theorem qp.fin (h:qp b V all w y W) {X:PR St} (hy:X.un=y) {c0 c1 c2 c3 c4 c5:Value} (hG:qo X fun a=>yJ w.heap.size (yr W w.heap.size c0 c1 c2 c3 c4 c5) a (.agg #[c0,c1,c2,c3,c4,c5])):
 qG b V all w X (yJ w.heap.size) (.returned (.agg #[c0,c1,c2,c3,c4,c5])) (yr W w.heap.size c0 c1 c2 c3 c4 c5):=
 ⟨_,rfl,hy ▸ h.1.nest6 h.2.2.1 (Nat.le_refl _) h.ne _ _ _ _ _ _,hG⟩
theorem qp.fina (h:qp b V all w y W) {X:PR St} (hy:X.un=y) {o:Obj} {c0 c1 c2 c3 c4 c5:Value} (hG:qo X fun a=>yJ w.heap.size ((_root_.Go.Proofs.YtfghofifjnbicaaGreatDoor.yr W w.heap.size c0 c1 c2 c3 c4 c5).alloc o) a (.agg #[c0,c1,c2,c3,c4,c5])):
 qG b V all w X (yJ w.heap.size) (.returned (.agg #[c0,c1,c2,c3,c4,c5])) ((_root_.Go.Proofs.YtfghofifjnbicaaGreatDoor.yr W w.heap.size c0 c1 c2 c3 c4 c5).alloc o):=
 ⟨_,rfl,hy ▸ (h.1.nest6 h.2.2.1 (Nat.le_refl _) h.ne _ _ _ _ _ _).alloc o,hG⟩
theorem qp.read (h:qp b V all w x W) (c0 c1 c2 c3 c4 c5:Value):(((((((W.setCell ⟨w.heap.size,0,none⟩ c0).setCell ⟨w.heap.size,1,none⟩ c1).setCell ⟨w.heap.size,2,none⟩ c2).setCell ⟨w.heap.size,3,none⟩ c3).setCell ⟨w.heap.size,4,none⟩ c4).setCell ⟨w.heap.size,5,none⟩ c5)).cell? ⟨w.heap.size,0,none⟩=some c0∧(((((((W.setCell ⟨w.heap.size,0,none⟩ c0).setCell ⟨w.heap.size,1,none⟩ c1).setCell ⟨w.heap.size,2,none⟩ c2).setCell ⟨w.heap.size,3,none⟩ c3).setCell ⟨w.heap.size,4,none⟩ c4).setCell ⟨w.heap.size,5,none⟩ c5)).cell? ⟨w.heap.size,1,none⟩=some c1∧(((((((W.setCell ⟨w.heap.size,0,none⟩ c0).setCell ⟨w.heap.size,1,none⟩ c1).setCell ⟨w.heap.size,2,none⟩ c2).setCell ⟨w.heap.size,3,none⟩ c3).setCell ⟨w.heap.size,4,none⟩ c4).setCell ⟨w.heap.size,5,none⟩ c5)).cell? ⟨w.heap.size,2,none⟩=some c2∧(((((((W.setCell ⟨w.heap.size,0,none⟩ c0).setCell ⟨w.heap.size,1,none⟩ c1).setCell ⟨w.heap.size,2,none⟩ c2).setCell ⟨w.heap.size,3,none⟩ c3).setCell ⟨w.heap.size,4,none⟩ c4).setCell ⟨w.heap.size,5,none⟩ c5)).cell? ⟨w.heap.size,3,none⟩=some c3∧(((((((W.setCell ⟨w.heap.size,0,none⟩ c0).setCell ⟨w.heap.size,1,none⟩ c1).setCell ⟨w.heap.size,2,none⟩ c2).setCell ⟨w.heap.size,3,none⟩ c3).setCell ⟨w.heap.size,4,none⟩ c4).setCell ⟨w.heap.size,5,none⟩ c5)).cell? ⟨w.heap.size,4,none⟩=some c4∧(((((((W.setCell ⟨w.heap.size,0,none⟩ c0).setCell ⟨w.heap.size,1,none⟩ c1).setCell ⟨w.heap.size,2,none⟩ c2).setCell ⟨w.heap.size,3,none⟩ c3).setCell ⟨w.heap.size,4,none⟩ c4).setCell ⟨w.heap.size,5,none⟩ c5)).cell? ⟨w.heap.size,5,none⟩=some c5:=(zO (nest6_row h.2.1 c0 c1 c2 c3 c4 c5)).1
theorem qp.reada (h:qp b V all w x W) (o:Obj) (c0 c1 c2 c3 c4 c5:Value):((((((((W.setCell ⟨w.heap.size,0,none⟩ c0).setCell ⟨w.heap.size,1,none⟩ c1).setCell ⟨w.heap.size,2,none⟩ c2).setCell ⟨w.heap.size,3,none⟩ c3).setCell ⟨w.heap.size,4,none⟩ c4).setCell ⟨w.heap.size,5,none⟩ c5)).alloc o).cell? ⟨w.heap.size,0,none⟩=some c0∧((((((((W.setCell ⟨w.heap.size,0,none⟩ c0).setCell ⟨w.heap.size,1,none⟩ c1).setCell ⟨w.heap.size,2,none⟩ c2).setCell ⟨w.heap.size,3,none⟩ c3).setCell ⟨w.heap.size,4,none⟩ c4).setCell ⟨w.heap.size,5,none⟩ c5)).alloc o).cell? ⟨w.heap.size,1,none⟩=some c1∧((((((((W.setCell ⟨w.heap.size,0,none⟩ c0).setCell ⟨w.heap.size,1,none⟩ c1).setCell ⟨w.heap.size,2,none⟩ c2).setCell ⟨w.heap.size,3,none⟩ c3).setCell ⟨w.heap.size,4,none⟩ c4).setCell ⟨w.heap.size,5,none⟩ c5)).alloc o).cell? ⟨w.heap.size,2,none⟩=some c2∧((((((((W.setCell ⟨w.heap.size,0,none⟩ c0).setCell ⟨w.heap.size,1,none⟩ c1).setCell ⟨w.heap.size,2,none⟩ c2).setCell ⟨w.heap.size,3,none⟩ c3).setCell ⟨w.heap.size,4,none⟩ c4).setCell ⟨w.heap.size,5,none⟩ c5)).alloc o).cell? ⟨w.heap.size,3,none⟩=some c3∧((((((((W.setCell ⟨w.heap.size,0,none⟩ c0).setCell ⟨w.heap.size,1,none⟩ c1).setCell ⟨w.heap.size,2,none⟩ c2).setCell ⟨w.heap.size,3,none⟩ c3).setCell ⟨w.heap.size,4,none⟩ c4).setCell ⟨w.heap.size,5,none⟩ c5)).alloc o).cell? ⟨w.heap.size,4,none⟩=some c4∧((((((((W.setCell ⟨w.heap.size,0,none⟩ c0).setCell ⟨w.heap.size,1,none⟩ c1).setCell ⟨w.heap.size,2,none⟩ c2).setCell ⟨w.heap.size,3,none⟩ c3).setCell ⟨w.heap.size,4,none⟩ c4).setCell ⟨w.heap.size,5,none⟩ c5)).alloc o).cell? ⟨w.heap.size,5,none⟩=some c5:=(zO (zc (nest6_row h.2.1 c0 c1 c2 c3 c4 c5) o)).1
end
theorem pNm_split (n:Nat) (x:PR Unit):(x.bind fun _ r=>pNm n r)=(x.bind fun _ r=>qQ 1 r).bind fun s r=>
 if z6 [40] r=true then (pA n 2 r.tail).bind fun es r=>.ok (.mk 10 0 bE [.mk 7 0 0 s es] [] []) r
 else if z6 [91] r=true then (pE n 1 1 r.tail).bind fun e r=>(zL [93] r).bind fun _ r=>(zL [61] r).bind fun _ r=>(pE n 1 1 r).bind fun f r=>.ok (.mk 3 0 s [e,f] [] []) r
 else (zL [61] r).bind fun _ r=>(pE n 1 1 r).bind fun e r=>.ok (.mk 2 0 s [e] [] []) r:=by
 rw[zR];rfl
theorem un_ok {α:Type} {x:PR α} {r:List Tok} (h:x.un=.ok () r):∃ a,x=.ok a r:=by
 cases x with
 | ok a q=>
   have:q=r:=by injection h
   exact⟨a,by rw[this]⟩
 | bad q=>cases h
 | deep q=>cases h
 | out=>cases h
theorem frEs_one_leaf {L:Nat} {W:World} {g:Nat} {k o n:Int} {s:ByteArray} {es:List Ex} {u:Value} {T:TypeId} (h:zS L W es u) (hn:uB n) (hW:L≤W.heap.size) (hg:g=W.heap.size):
 zS L (W.alloc (.cells #[.int .i64 k,.int .i64 o,.int .i64 n,.string s,u] T)) [.mk k o n s es] (.slice (some ⟨g,0,none⟩) 1 1):=
 yG (L:=L) (show jf L W (.mk k o n s es) _ from⟨u,rfl,hn,h⟩) (Nat.le_refl _) hW hg
theorem r64:uB 0:=⟨by decide,by decide⟩
theorem named_call {b:Nat} {V:Value} {all:List Tok} {n:Nat} {x:PR Unit} {w:World} {s:ByteArray} {r:List Tok} (h:jA b V all x w) (hx:(x.bind fun _ r=>qQ 1 r)=.ok s r) (h7:z6 [40] r=true) (hn:zG (x.bind fun _ r=>pNm n r)):
 Calls Tryz.prog 99 #[.pointer (some ⟨b,0,none⟩)] w (qG b V all w (x.bind fun _ r=>pNm n r) (yJ w.heap.size)):=by
 have ex:(x.bind fun _ r=>pNm n r)=(pA n 2 r.tail).bind fun es r=>.ok (.mk 10 0 bE [.mk 7 0 0 s es] [] []) r:=by
  rw[pNm_split,hx];show (if z6 [40] r=true then _ else _)=_;rw[if_pos h7]
 rw[ex]at hn ⊢;have HN:=hid (show zG ((PR.ok () r.tail).bind fun _ r=>pA n 2 r) from zo hn);have HC:=hid (qp.start h);have HX:=hid hx;have HY:=hid (show zP (⟨#[40]⟩:ByteArray).data.toList (PR.ok () r)=true from h7);have HA:=hid (args_all (b:=b) (V:=V) (all:=all) (n:=n) (d:=2) (by decide) (by decide));have hbw:=h.lt;clear h hx h7 hn ex;go_enter Tryz.func99,Tryz.ntmps99
 go_wp2_with (first
  | (go_at_call 41;(with_reducible refine(xF HC.out.st 1 (by decide)).mono ?_);rintro e w1 ⟨s',rfl,hD,hG⟩
     rw[HX.out]at hD hG;obtain rfl:s=s':=hG;replace HC:=hid (show qp b V all w (.ok () r) w1 from HC.out.step hD)
     clear hD)
  | (go_at_call 42;(with_reducible refine(zb HC.out.st _ HY.out).mono ?_);rintro e w2 ⟨rfl,hD⟩
     replace HC:=hid (show qp b V all w (.ok () r.tail) w2 from HC.out.step hD);have hz2:=HC.out.size
     clear hD)
  | (go_at_call 113;(with_reducible refine(HA.out.call HC.out.st HN.out).mono ?_);rintro e w3 ⟨v,rfl,hD,hG⟩
     obtain⟨k5,k6,k7,rfl⟩:=got_forms hG HN.out;have HG:=hid hG;replace HC:=hid (HC.out.step hD);have hz3:=HC.out.size;obtain⟨⟨c0,c1,c2,c3,c4,c5⟩,fz⟩:=HC.out.own
     clear hD hG))
 obtain⟨f0,f1,f2,f3,f4,f5⟩:=HC.out.reada (.cells #[.int .i64 7,.int .i64 0,.int .i64 0,.string s,.slice k5 k6 k7] 116) (.int .i64 10) (.int .i64 0) (.string ⟨#[]⟩) (.slice (some ⟨w3.heap.size,0,none⟩) 1 1) (.slice none 0 0) (.slice none 0 0);refine bodyPost_ret (v:=.agg #[.int .i64 10,.int .i64 0,.string ⟨#[]⟩,.slice (some ⟨w3.heap.size,0,none⟩) 1 1,.slice none 0 0,.slice none 0 0]) (by simp[results,Tryz.results99,go_sem,f0,f1,f2,f3,f4,f5]) rfl ?_;refine HC.out.fina (by rw[qu];rfl) (qo.bind HG.out (fun es r _ ha=>?_) fun es ha=>⟨.mk 10 0 bE [.mk 7 0 0 s es] [] [],?_⟩)
 all_goals exact⟨_,_,_,rfl,frEs_one_leaf (zS.keep ha (zD.nest6 hz2 _ _ _ _ _ _) (by omega)) r64 (by rw[ks];omega) (ks _ _ _ _ _ _ _ _).symm,qM _ _,qM _ _⟩
theorem vu {b:Nat} {V:Value} {all:List Tok} {n:Nat} {x:PR Unit} {w:World} (h:jA b V all x w) (h7:zP [40] (x.bind fun _ r=>qQ 1 r)=false) (h8:zP [91] (x.bind fun _ r=>qQ 1 r)=false) (hn:zG (x.bind fun _ r=>pNm n r)):
 Calls Tryz.prog 99 #[.pointer (some ⟨b,0,none⟩)] w (qG b V all w (x.bind fun _ r=>pNm n r) (yJ w.heap.size)):=by
 have ex:(x.bind fun _ r=>pNm n r)=(x.bind fun _ r=>qQ 1 r).bind fun s r=>(zL [61] r).bind fun _ r=>(pE n 1 1 r).bind fun e r=>.ok (.mk 2 0 s [e] [] []) r:=by
  rw[pNm_split];cases hx:(x.bind fun _ r=>qQ 1 r) with
  | ok s r=>
    rw[hx]at h7 h8;show (if z6 [40] r=true then _ else _)=_;rw[if_neg (by rw[show z6 [40] r=false from h7];decide),if_neg (by rw[show z6 [91] r=false from h8];decide)];rfl
  | _=>rfl
 obtain⟨x1,hx1⟩:∃ x1,(x.bind fun _ r=>qQ 1 r)=x1:=⟨_,rfl⟩
 rw[hx1]at ex h7 h8;rw[ex]at hn ⊢
 have hasc:(x1.bind fun s r=>(zL [61] r).bind fun _ r=>(pE n 1 1 r).bind fun e r=>PR.ok (St.mk 2 0 s [e] [] []) r)=x1.bind fun s r=>((zL [61] r).bind fun _ r=>pE n 1 1 r).bind fun e r=>PR.ok (St.mk 2 0 s [e] [] []) r:=by
  simp only[zR]
 have hE2:zG ((x1.un.bind fun _ r=>zL [61] r).bind fun _ r=>pE n 1 1 r):=by
  rw[hasc]at hn;cases x1 with
  | ok s r=>exact zo hn
  | _=>exact hn
 have HN:=hid hE2;have HC:=hid (qp.start h);have HX:=hid hx1;have hiu:∀ t,zP t x1.un=zP t x1:=fun t=>by cases x1 <;> rfl
 have HY1:=hid (show zP (⟨#[40]⟩:ByteArray).data.toList x1.un=false from(hiu _).trans h7);have HY2:=hid (show zP (⟨#[91]⟩:ByteArray).data.toList x1.un=false from(hiu _).trans h8);have HE:=hid (xZ (b:=b) (V:=V) (all:=all) (n:=n) (d:=1) (by decide) (by decide));have hbw:=h.lt;clear h hx1 h7 h8 hn ex hasc hE2 hiu;go_enter Tryz.func99,Tryz.ntmps99
 go_wp2_with (first
  | (go_at_call 41;(with_reducible refine(xF HC.out.st 1 (by decide)).mono ?_);rintro e w1 ⟨s,rfl,hD,hG⟩
     rw[HX.out]at hD hG;have HGS:=hid hG;replace HC:=hid (HC.out.step hD)
     clear hD hG)
  | (go_at_call 42;(with_reducible refine(zF HC.out.st _ HY1.out).mono ?_);rintro e w2 ⟨rfl,hD⟩;replace HC:=hid (HC.out.step hD);clear hD)
  | (go_at_call 42;(with_reducible refine(zF HC.out.st _ HY2.out).mono ?_);rintro e w3 ⟨rfl,hD⟩;replace HC:=hid (HC.out.step hD);clear hD)
  | (go_at_call 44;(with_reducible refine(zX HC.out.st ⟨#[61]⟩).mono ?_);rintro e w4 ⟨rfl,hD⟩
     replace HC:=hid (show qp b V all w (x1.un.bind fun _ r=>zL [61] r) w4 from HC.out.step hD);have hz4:=HC.out.size
     clear hD)
  | (go_at_call 97;(with_reducible refine(HE.out.call HC.out.st HN.out).mono ?_);rintro e w5 ⟨v,rfl,hD,hG⟩
     obtain⟨k1,k2,k3,k4,k5,k6,k7,rfl⟩:=qT hG HN.out;have HG:=hid hG;replace HC:=hid (HC.out.step hD);have hz5:=HC.out.size;obtain⟨⟨c0,c1,c2,c3,c4,c5⟩,fz⟩:=HC.out.own
     clear hD hG))
 obtain⟨f0,f1,f2,f3,f4,f5⟩:=HC.out.reada (.cells #[.int .i64 k1,.int .i64 k2,.int .i64 k3,.string k4,.slice k5 k6 k7] 116) (.int .i64 2) (.int .i64 0) (.string s) (.slice (some ⟨w5.heap.size,0,none⟩) 1 1) (.slice none 0 0) (.slice none 0 0);refine bodyPost_ret (v:=.agg #[.int .i64 2,.int .i64 0,.string s,.slice (some ⟨w5.heap.size,0,none⟩) 1 1,.slice none 0 0,.slice none 0 0]) (by simp[results,Tryz.results99,go_sem,f0,f1,f2,f3,f4,f5]) rfl ?_
 have hfr:∀ e,jf w4.heap.size w5 e (.agg #[.int .i64 k1,.int .i64 k2,.int .i64 k3,.string k4,.slice k5 k6 k7])→yJ w.heap.size ((yr w5 w.heap.size (.int .i64 2) (.int .i64 0) (.string s) (.slice (some ⟨w5.heap.size,0,none⟩) 1 1) (.slice none 0 0) (.slice none 0 0)).alloc (.cells #[.int .i64 k1,.int .i64 k2,.int .i64 k3,.string k4,.slice k5 k6 k7] 116)) (.mk 2 0 s [e] [] []) (.agg #[.int .i64 2,.int .i64 0,.string s,.slice (some ⟨w5.heap.size,0,none⟩) 1 1,.slice none 0 0,.slice none 0 0]):=fun e he=>
  ⟨_,_,_,rfl,yG (jf.keep he (zD.nest6 hz4 _ _ _ _ _ _) (Nat.le_refl _)) (by omega) (by rw[ks];omega) (ks _ _ _ _ _ _ _ _).symm,qM _ _,qM _ _⟩
 have hG:=HG.out;have hGS:=HGS.out;refine HC.out.fina ?_ ?_
 · cases x1 with
   | ok s' r=>
     show ((zL [61] r).bind fun _ r=>(pE n 1 1 r).bind fun e r=>PR.ok (St.mk 2 0 s' [e] [] []) r).un=((zL [61] r).bind fun _ r=>pE n 1 1 r).un;rw[←zR,qu];rfl
   | _=>rfl
 · cases x1 with
   | ok s' r=>
     obtain rfl:s'=s:=hGS;have hG':qo (((zL [61] r).bind fun _ r=>pE n 1 1 r)) fun a=>jf w4.heap.size w5 a (.agg #[.int .i64 k1,.int .i64 k2,.int .i64 k3,.string k4,.slice k5 k6 k7]):=hG
     show qo ((zL [61] r).bind fun _ r=>(pE n 1 1 r).bind fun e r=>PR.ok (St.mk 2 0 s' [e] [] []) r) _;rw[←zR];exact hG'.bind (fun e r _ he=>hfr e he) fun e he=>⟨_,hfr e he⟩
   | bad r=>obtain⟨e,he⟩:=hG;exact⟨_,hfr e he⟩
   | deep r=>obtain⟨e,he⟩:=hG;exact⟨_,hfr e he⟩
   | out=>trivial
theorem qV.drew0 {b:Nat} {V:Value} {all:List Tok} {w w':World} {x:PR Unit} (h:qV b V all w.drew x w') (hb:b<w.heap.size):qV b V all w x w':=⟨h.1,(OffB.of_below (Below.refl w.heap.size w).drew hb).trans h.2⟩
theorem qp.drew {b:Nat} {V:Value} {all:List Tok} {w W:World} {x:PR Unit} (h:qp b V all w x W):qp b V all w x W.drew:=h.step ⟨h.st.below (Below.refl _ _).drew,OffB.of_below (Below.refl _ _).drew h.st.lt⟩
def putX (n:Nat) (s:ByteArray) (r:List Tok):PR St:=(pE n 1 1 r).bind fun e r=>(zL [93] r).bind fun _ r=>(zL [61] r).bind fun _ r=>(pE n 1 1 r).bind fun f r=>.ok (.mk 3 0 s [e,f] [] []) r
def putA (n:Nat) (r:List Tok):PR Unit:=(((PR.ok () r).bind fun _ r=>pE n 1 1 r).un.bind fun _ r=>zL [93] r).bind fun _ r=>zL [61] r
theorem put_ends {n:Nat} {s:ByteArray} {r:List Tok} (h:zG (putX n s r)):zG ((putA n r).bind fun _ r=>pE n 1 1 r):=by
 unfold putX at h;unfold putA;show zG ((((pE n 1 1 r).un.bind fun _ r=>zL [93] r).bind fun _ r=>zL [61] r).bind fun _ r=>pE n 1 1 r);cases hx:pE n 1 1 r with
 | ok e r=>
   rw[hx]at h;have h':zG ((zL [93] r).bind fun _ r=>(zL [61] r).bind fun _ r=>(pE n 1 1 r).bind fun f r=>.ok (St.mk 3 0 s [e,f] [] []) r):=h;show zG ((((zL [93] r)).bind fun _ r=>zL [61] r).bind fun _ r=>pE n 1 1 r);rw[←zR,←zR]at h';exact zo h'
 | bad r=>trivial
 | deep r=>trivial
 | out=>rw[hx]at h;exact h
theorem put_un {n:Nat} {s:ByteArray} {r:List Tok}:(putX n s r).un=((putA n r).bind fun _ r=>pE n 1 1 r).un:=by
 unfold putX putA;show _=((((pE n 1 1 r).un.bind fun _ r=>zL [93] r).bind fun _ r=>zL [61] r).bind fun _ r=>pE n 1 1 r).un;cases pE n 1 1 r with
 | ok e r=>
   show ((zL [93] r).bind fun _ r=>(zL [61] r).bind fun _ r=>(pE n 1 1 r).bind fun f r=>PR.ok (St.mk 3 0 s [e,f] [] []) r).un=((((zL [93] r)).bind fun _ r=>zL [61] r).bind fun _ r=>pE n 1 1 r).un;rw[←zR,←zR,qu];rfl
 | _=>rfl
theorem put_got {n:Nat} {s:ByteArray} {r:List Tok} {P1 P2:Ex→Prop} {Q:St→Prop} (h1:qo ((PR.ok () r).bind fun _ r=>pE n 1 1 r) P1) (h2:qo ((putA n r).bind fun _ r=>pE n 1 1 r) P2) (he:zG ((putA n r).bind fun _ r=>pE n 1 1 r)) (hq:∀ e f,P1 e→P2 f→Q (.mk 3 0 s [e,f] [] [])):qo (putX n s r) Q:=by
 obtain⟨f0,hf0⟩:=h2.some he;unfold putX;unfold putA at h2;cases hx:pE n 1 1 r with
 | ok e r1=>
   have hx':((PR.ok () r).bind fun _ r=>pE n 1 1 r)=.ok e r1:=hx;rw[hx']at h1 h2;show qo ((zL [93] r1).bind fun _ r=>(zL [61] r).bind fun _ r=>(pE n 1 1 r).bind fun f r=>PR.ok (St.mk 3 0 s [e,f] [] []) r) Q;have h2':qo ((((zL [93] r1)).bind fun _ r=>zL [61] r).bind fun _ r=>pE n 1 1 r) P2:=h2;rw[←zR,←zR];exact h2'.bind (fun f r _ hf=>hq e f h1 hf) fun f hf=>⟨_,hq e f h1 hf⟩
 | bad r1=>
   have hx':((PR.ok () r).bind fun _ r=>pE n 1 1 r)=.bad r1:=hx;rw[hx']at h1;obtain⟨e,he⟩:=h1;exact⟨_,hq e f0 he hf0⟩
 | deep r1=>
   have hx':((PR.ok () r).bind fun _ r=>pE n 1 1 r)=.deep r1:=hx;rw[hx']at h1;obtain⟨e,he⟩:=h1;exact⟨_,hq e f0 he hf0⟩
 | out=>trivial
theorem fr_two {L M g:Nat} {W:World} {e e2:Ex} {k op n k' op' n':Int} {s s':ByteArray} {u u':Value} {T:TypeId} (h:jf L W e (.agg #[.int .i64 k,.int .i64 op,.int .i64 n,.string s,u])) (h2:jf L W e2 (.agg #[.int .i64 k',.int .i64 op',.int .i64 n',.string s',u'])) (hM:M≤L) (hW:M≤W.heap.size) (hg:g=W.heap.size):
 zS M (W.alloc (.cells #[.int .i64 k,.int .i64 op,.int .i64 n,.string s,u,.int .i64 k',.int .i64 op',.int .i64 n',.string s',u'] T)) [e,e2] (.slice (some ⟨g,0,none⟩) 2 2):=by
 subst hg;have hk:=zD.of_below (L:=L) ((Below.refl W.heap.size W).alloc (Nat.le_refl _) (.cells #[.int .i64 k,.int .i64 op,.int .i64 n,.string s,u,.int .i64 k',.int .i64 op',.int .i64 n',.string s',u'] T));obtain⟨args,rfl,hn,hs⟩:=exV_at (h.keep hk hM);obtain⟨args2,rfl,hn2,hs2⟩:=exV_at (h2.keep hk hM);exact slE_at2 (w:=mask (yg M) _) (b:=W.heap.size) ((um (qH.2 hW)).trans (heap_alloc_new W _)) (by simp) hn hs hn2 hs2
theorem named_put {b:Nat} {V:Value} {all:List Tok} {n:Nat} {x:PR Unit} {w:World} {s:ByteArray} {r:List Tok} (h:jA b V all x w) (hx:(x.bind fun _ r=>qQ 1 r)=.ok s r) (h7:z6 [40] r=false) (h8:z6 [91] r=true) (hn:zG (x.bind fun _ r=>pNm n r)):
 Calls Tryz.prog 99 #[.pointer (some ⟨b,0,none⟩)] w (qG b V all w (x.bind fun _ r=>pNm n r) (yJ w.heap.size)):=by
 have ex:(x.bind fun _ r=>pNm n r)=putX n s r.tail:=by
  rw[pNm_split,hx];show (if z6 [40] r=true then _ else _)=_;rw[if_neg (by rw[h7];decide),if_pos h8];rfl
 rw[ex]at hn ⊢;have hn2:=put_ends hn;have HN1:=hid (show zG ((PR.ok () r.tail).bind fun _ r=>pE n 1 1 r) from zo hn);have HN2:=hid hn2;have HC:=hid (qp.start h);have HX:=hid hx;have HY1:=hid (show zP (⟨#[40]⟩:ByteArray).data.toList (PR.ok () r)=false from h7);have HY2:=hid (show zP (⟨#[91]⟩:ByteArray).data.toList (PR.ok () r)=true from h8);have HE:=hid (xZ (b:=b) (V:=V) (all:=all) (n:=n) (d:=1) (by decide) (by decide));have hbw:=h.lt;clear h hx h7 h8 hn ex hn2;go_enter Tryz.func99,Tryz.ntmps99
 go_wp2_with (first
  | (go_at_call 41;(with_reducible refine(xF HC.out.st 1 (by decide)).mono ?_);rintro e w1 ⟨s',rfl,hD,hG⟩
     rw[HX.out]at hD hG;obtain rfl:s=s':=hG;replace HC:=hid (show qp b V all w (.ok () r) w1 from HC.out.step hD)
     clear hD)
  | (go_at_call 42;(with_reducible refine(zF HC.out.st _ HY1.out).mono ?_);rintro e w2 ⟨rfl,hD⟩;replace HC:=hid (HC.out.step hD);clear hD)
  | (go_at_call 42;(with_reducible refine(zb HC.out.st _ HY2.out).mono ?_);rintro e w3 ⟨rfl,hD⟩
     replace HC:=hid (show qp b V all w (.ok () r.tail) w3 from HC.out.step hD);have hz3:=HC.out.size
     clear hD)
  | (go_at_call 97;(with_reducible refine(HE.out.call HC.out.st HN1.out).mono ?_);rintro e w4 ⟨v,rfl,hD,hG⟩
     obtain⟨k1,k2,k3,k4,k5,k6,k7,rfl⟩:=qT hG HN1.out;have HG:=hid hG;have hb3:=HC.out.st.lt;replace HC:=hid (HC.out.step hD);have hz4:=HC.out.size;have hb4:w4.heap.size≠b:=by have:=HC.out.st.lt;omega
     have h34:=hD.off.size
     clear hD hG)
  | (go_at_call 44;(with_reducible refine(zX (HC.out.alloc (.cells #[.int .i64 k1,.int .i64 k2,.int .i64 k3,.string k4,.slice k5 k6 k7] 116)).st ⟨#[93]⟩).mono ?_);rintro e w5 ⟨rfl,hD⟩
     have HK5:=hid ((zD.of_below (L:=w3.heap.size) ((Below.refl _ _).alloc (Nat.le_refl _) _)).trans (zD.did hD hb3));have HR5:=hid (qY hD.off (k:=w4.heap.size) (by simp) hb4 (heap_alloc_new w4 _));replace HC:=hid (show qp b V all w (((PR.ok () r.tail).bind fun _ r=>pE n 1 1 r).un.bind fun _ r=>zL [93] r) w5 from(HC.out.alloc _).step hD);have hz5:w4.heap.size<w5.heap.size:=(Array.getElem?_eq_some_iff.1 HR5.out).1
     clear hD)
  | (go_at_call 44;(with_reducible refine(zX HC.out.st ⟨#[61]⟩).mono ?_);rintro e w6 ⟨rfl,hD⟩
     have HK6:=hid (HK5.out.trans (zD.did hD hb3));have hr6:=qY hD.off (k:=w4.heap.size) hz5 hb4 HR5.out;have HR6:=hid hr6;obtain⟨⟨p0,p1,p2,p3,p4⟩,pz⟩:=qK hr6;replace HC:=hid (show qp b V all w (putA n r.tail) w6 from HC.out.step hD);have hz6:w4.heap.size<w6.heap.size:=(Array.getElem?_eq_some_iff.1 hr6).1
     clear hD hr6))
 go_region_held3 (fun w'=>w'.cell? ⟨w4.heap.size,0,none⟩=some (.int .i64 k1)∧w'.cell? ⟨w4.heap.size,1,none⟩=some (.int .i64 k2)∧w'.cell? ⟨w4.heap.size,2,none⟩=some (.int .i64 k3)∧w'.cell? ⟨w4.heap.size,3,none⟩=some (.string k4)∧w'.cell? ⟨w4.heap.size,4,none⟩=some (.slice k5 k6 k7))
  (first
    | (go_split_ands;refine⟨?_,?_,?_,?_,?_⟩ <;> (rw[hk7];assumption))
    | (go_split_ands;refine⟨?_,?_,?_,?_,?_⟩ <;> (rw[hk8];assumption))
    | go_keep)
  (first
    | (go_at_call 97;(refine(HE.out.call (HC.out.drew).st HN2.out).mono ?_);rintro e w7 ⟨v,rfl,hD,hG⟩
       obtain⟨j1,j2,j3,j4,j5,j6,j7,rfl⟩:=qT hG HN2.out;have HG2:=hid hG;have hk7:∀ o,w7.cell? ⟨w4.heap.size,o,none⟩=w6.cell? ⟨w4.heap.size,o,none⟩:=(off_own hD.off (k:=w4.heap.size) hz6 hb4).1;have HK7:=hid (HK6.out.trans (zD.did (hD.drew0 HC.out.st.lt) hb3));have h67:=hD.off.size;have hr7:=qY hD.off (k:=w4.heap.size) hz6 hb4 HR6.out
       have hk8:∀ (c0 c1 c2 c3 c4 c5:Value) (o':Obj) (j:Nat),((yr w7 w.heap.size c0 c1 c2 c3 c4 c5).alloc o').cell? ⟨w4.heap.size,j,none⟩=w6.cell? ⟨w4.heap.size,j,none⟩:=fun c0 c1 c2 c3 c4 c5 o' j=>
        (Lib.cell_of_heap (zc ((nest6_other (show w4.heap.size≠w.heap.size by omega) c0 c1 c2 c3 c4 c5).trans hr7) o') j).trans (Lib.cell_of_heap HR6.out j).symm
       replace HC:=hid (HC.out.drew.step hD);have hz7:=HC.out.size;obtain⟨⟨c0,c1,c2,c3,c4,c5⟩,fz⟩:=HC.out.own
       clear hD hG))
 go_wp2_with (fail);obtain⟨f0,f1,f2,f3,f4,f5⟩:=HC.out.reada (.cells #[.int .i64 k1,.int .i64 k2,.int .i64 k3,.string k4,.slice k5 k6 k7,.int .i64 j1,.int .i64 j2,.int .i64 j3,.string j4,.slice j5 j6 j7] 116) (.int .i64 3) (.int .i64 0) (.string s) (.slice (some ⟨w7.heap.size,0,none⟩) 2 2) (.slice none 0 0) (.slice none 0 0);refine bodyPost_ret (v:=.agg #[.int .i64 3,.int .i64 0,.string s,.slice (some ⟨w7.heap.size,0,none⟩) 2 2,.slice none 0 0,.slice none 0 0]) (by simp[results,Tryz.results99,go_sem,f0,f1,f2,f3,f4,f5]) rfl ?_;refine HC.out.fina put_un (put_got HG.out HG2.out HN2.out fun e f he hf=>?_);refine⟨_,_,_,rfl,?_,qM _ _,qM _ _⟩;refine fr_two (L:=w3.heap.size) (jf.keep he (HK7.out.trans (zD.nest6 hz3 _ _ _ _ _ _)) (Nat.le_refl _)) (jf.keep hf (zD.nest6 (by show w.heap.size<w6.heap.size;omega) _ _ _ _ _ _) (by show w3.heap.size≤w6.heap.size;omega)) (by omega) (by rw[ks];omega) (ks _ _ _ _ _ _ _ _).symm
theorem named_any {b:Nat} {V:Value} {all:List Tok} {n:Nat} {x:PR Unit} {w:World} (h:jA b V all x w) (hn:zG (x.bind fun _ r=>pNm n r)):
 Calls Tryz.prog 99 #[.pointer (some ⟨b,0,none⟩)] w (qG b V all w (x.bind fun _ r=>pNm n r) (yJ w.heap.size)):=by
 cases hx:(x.bind fun _ r=>qQ 1 r) with
 | ok s r=>
   cases h7:z6 [40] r with
   | true=>exact named_call h hx h7 hn
   | false=>
     cases h8:z6 [91] r with
     | true=>exact named_put h hx h7 h8 hn
     | false=>exact vu h (by rw[hx];exact h7) (by rw[hx];exact h8) hn
 | bad r=>exact vu h (by rw[hx];rfl) (by rw[hx];rfl) hn
 | deep r=>exact vu h (by rw[hx];rfl) (by rw[hx];rfl) hn
 | out=>exact vu h (by rw[hx];rfl) (by rw[hx];rfl) hn
end Go.Proofs.YtfghofifjnbicaaGreatDoor
