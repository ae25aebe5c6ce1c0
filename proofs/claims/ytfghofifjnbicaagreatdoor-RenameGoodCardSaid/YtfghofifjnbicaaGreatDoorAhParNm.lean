import Derived.Test.YtfghofifjnbicaaGreatDoorAhZed
import Derived.Test.YtfghofifjnbicaaGreatDoorAhParArgs
import Derived.Deep.RegionHeld3
set_option linter.unusedSimpArgs false
set_option linter.unusedVariables false
set_option maxRecDepth 100000
/- The document's parser: statements that begin with a name. -/
namespace Go.Proofs.YtfghofifjnbicaaGreatDoor
open Lib (hid)
open Go.RowKit
theorem pNm_split (n:Nat) (x:PR Unit):(x.bind fun _ r=>pNm n r)=(x.bind fun _ r=>qP 1 r).bind fun s r=>
 if z6 [40] r=true then (pA n 2 r.tail).bind fun es r=>.ok (.mk 10 0 bE [.mk 7 0 0 s es] [] []) r
 else if z6 [91] r=true then (pE n 1 1 r.tail).bind fun e r=>(zL [93] r).bind fun _ r=>(zL [61] r).bind fun _ r=>(pE n 1 1 r).bind fun f r=>.ok (.mk 3 0 s [e,f] [] []) r
 else (zL [61] r).bind fun _ r=>(pE n 1 1 r).bind fun e r=>.ok (.mk 2 0 s [e] [] []) r:=by
 rw[zR];rfl
theorem un_ok {α:Type} {x:PR α} {r:List Tok} (h:x.un=.ok () r):∃ a,x=.ok a r:=by
 cases x with
 | ok a q=>
   have:q=r:=by injection h
   exact⟨a,by rw[this]⟩
 | bad q=>cases h
 | deep q=>cases h
 | out=>cases h
theorem frEs_one_leaf {L:Nat} {W:World} {g:Nat} {k o n:Int} {s:ByteArray} {es:List Ex} {u:Value} {T:TypeId} (h:zU L W es u) (hn:vw n) (hW:L≤W.heap.size) (hg:g=W.heap.size):
 zU L (W.alloc (.cells #[.int .i64 k,.int .i64 o,.int .i64 n,.string s,u] T)) [.mk k o n s es] (.slice (some ⟨g,0,none⟩) 1 1):=
 yF (L:=L) (show jc L W (.mk k o n s es) _ from⟨u,rfl,hn,h⟩) Zr hW hg
theorem r64:vw 0:=⟨by decide,by decide⟩
theorem named_call {b:Nat} {V:Value} {all:List Tok} {n:Nat} {x:PR Unit} {w:World} {s:ByteArray} {r:List Tok} (h:qx b V all x w) (hx:(x.bind fun _ r=>qP 1 r)=.ok s r) (h7:z6 [40] r=true) (hn:zG (x.bind fun _ r=>pNm n r)):
 Calls Tryz.prog 99 #[.pointer (some ⟨b,0,none⟩)] w (qF b V all w (x.bind fun _ r=>pNm n r) (yI w.heap.size)):=by
 have ex:(x.bind fun _ r=>pNm n r)=(pA n 2 r.tail).bind fun es r=>.ok (.mk 10 0 bE [.mk 7 0 0 s es] [] []) r:=by
  rw[pNm_split,hx];show (if z6 [40] r=true then _ else _)=_;rw[if_pos h7]
 rw[ex]at hn ⊢;have HN:=hid (show zG ((PR.ok () r.tail).bind fun _ r=>pA n 2 r) from zo hn);have HC:=hid (jF.start h);have HX:=hid hx;have HY:=hid (show zP (⟨#[40]⟩:ByteArray).data.toList (PR.ok () r)=true from h7);have HA:=hid (args_all (b:=b) (V:=V) (all:=all) (n:=n) (d:=2) (by decide) (by decide));have hbw:=h.lt;clear h hx h7 hn ex;go_enter Tryz.func99,Tryz.ntmps99
 go_wp2_with (first
  | (go_at_call 41;(with_reducible refine(xB HC.out.st 1 (by decide)).mono ?_);rintro e w1 ⟨s',rfl,hD,hG⟩
     rw[HX.out]at hD hG;obtain rfl:s=s':=hG;replace HC:=hid (show jF b V all w (.ok () r) w1 from HC.out.step hD)
     clear hD)
  | (go_at_call 42;(with_reducible refine(zb HC.out.st _ HY.out).mono ?_);rintro e w2 ⟨rfl,hD⟩
     replace HC:=hid (show jF b V all w (.ok () r.tail) w2 from HC.out.step hD);have hz2:=HC.out.size
     clear hD)
  | (go_at_call 113;(with_reducible refine(HA.out.call HC.out.st HN.out).mono ?_);rintro e w3 ⟨v,rfl,hD,hG⟩
     obtain⟨k5,k6,k7,rfl⟩:=got_forms hG HN.out;have HG:=hid hG;replace HC:=hid (HC.out.step hD);have hz3:=HC.out.size;obtain⟨⟨c0,c1,c2,c3,c4,c5⟩,fz⟩:=HC.out.own
     clear hD hG))
 obtain⟨f0,f1,f2,f3,f4,f5⟩:=HC.out.reada (.cells #[.int .i64 7,.int .i64 0,.int .i64 0,.string s,.slice k5 k6 k7] 116) (.int .i64 10) (.int .i64 0) (.string ⟨#[]⟩) (.slice (some ⟨w3.heap.size,0,none⟩) 1 1) (.slice none 0 0) (.slice none 0 0);refine bodyPost_ret (v:=.agg #[.int .i64 10,.int .i64 0,.string ⟨#[]⟩,.slice (some ⟨w3.heap.size,0,none⟩) 1 1,.slice none 0 0,.slice none 0 0]) (by simp[results,Tryz.results99,go_sem,f0,f1,f2,f3,f4,f5]) rfl ?_;refine HC.out.fina (by rw[qr];rfl) (qn.bind HG.out (fun es r _ ha=>?_) fun es ha=>⟨.mk 10 0 bE [.mk 7 0 0 s es] [] [],?_⟩)
 all_goals exact⟨_,_,_,rfl,frEs_one_leaf (zU.keep ha (zD.nest6 hz2 _ _ _ _ _ _) (by omega)) r64 (by rw[ko];omega) (ko _ _ _ _ _ _ _ _).symm,qM _ _,qM _ _⟩
theorem vm {b:Nat} {V:Value} {all:List Tok} {n:Nat} {x:PR Unit} {w:World} (h:qx b V all x w) (h7:zP [40] (x.bind fun _ r=>qP 1 r)=false) (h8:zP [91] (x.bind fun _ r=>qP 1 r)=false) (hn:zG (x.bind fun _ r=>pNm n r)):
 Calls Tryz.prog 99 #[.pointer (some ⟨b,0,none⟩)] w (qF b V all w (x.bind fun _ r=>pNm n r) (yI w.heap.size)):=by
 have ex:(x.bind fun _ r=>pNm n r)=(x.bind fun _ r=>qP 1 r).bind fun s r=>(zL [61] r).bind fun _ r=>(pE n 1 1 r).bind fun e r=>.ok (.mk 2 0 s [e] [] []) r:=by
  rw[pNm_split];cases hx:(x.bind fun _ r=>qP 1 r) with
  | ok s r=>
    rw[hx]at h7 h8;show (if z6 [40] r=true then _ else _)=_;rw[if_neg (by rw[show z6 [40] r=false from h7];decide),if_neg (by rw[show z6 [91] r=false from h8];decide)];rfl
  | _=>rfl
 obtain⟨x1,hx1⟩:∃ x1,(x.bind fun _ r=>qP 1 r)=x1:=⟨_,rfl⟩
 rw[hx1]at ex h7 h8;rw[ex]at hn ⊢
 have hasc:(x1.bind fun s r=>(zL [61] r).bind fun _ r=>(pE n 1 1 r).bind fun e r=>PR.ok (St.mk 2 0 s [e] [] []) r)=x1.bind fun s r=>((zL [61] r).bind fun _ r=>pE n 1 1 r).bind fun e r=>PR.ok (St.mk 2 0 s [e] [] []) r:=by
  simp only[zR]
 have hE2:zG ((x1.un.bind fun _ r=>zL [61] r).bind fun _ r=>pE n 1 1 r):=by
  rw[hasc]at hn;cases x1 with
  | ok s r=>exact zo hn
  | _=>exact hn
 have HN:=hid hE2;have HC:=hid (jF.start h);have HX:=hid hx1;have hiu:∀ t,zP t x1.un=zP t x1:=fun t=>by cases x1 <;> rfl
 have HY1:=hid (show zP (⟨#[40]⟩:ByteArray).data.toList x1.un=false from(hiu _).trans h7);have HY2:=hid (show zP (⟨#[91]⟩:ByteArray).data.toList x1.un=false from(hiu _).trans h8);have HE:=hid (xW (b:=b) (V:=V) (all:=all) (n:=n) (d:=1) (by decide) (by decide));have hbw:=h.lt;clear h hx1 h7 h8 hn ex hasc hE2 hiu;go_enter Tryz.func99,Tryz.ntmps99
 go_wp2_with (first
  | (go_at_call 41;(with_reducible refine(xB HC.out.st 1 (by decide)).mono ?_);rintro e w1 ⟨s,rfl,hD,hG⟩
     rw[HX.out]at hD hG;have HGS:=hid hG;replace HC:=hid (HC.out.step hD)
     clear hD hG)
  | (go_at_call 42;(with_reducible refine(zF HC.out.st _ HY1.out).mono ?_);rintro e w2 ⟨rfl,hD⟩;replace HC:=hid (HC.out.step hD);clear hD)
  | (go_at_call 42;(with_reducible refine(zF HC.out.st _ HY2.out).mono ?_);rintro e w3 ⟨rfl,hD⟩;replace HC:=hid (HC.out.step hD);clear hD)
  | (go_at_call 44;(with_reducible refine(zW HC.out.st ⟨#[61]⟩).mono ?_);rintro e w4 ⟨rfl,hD⟩
     replace HC:=hid (show jF b V all w (x1.un.bind fun _ r=>zL [61] r) w4 from HC.out.step hD);have hz4:=HC.out.size
     clear hD)
  | (go_at_call 97;(with_reducible refine(HE.out.call HC.out.st HN.out).mono ?_);rintro e w5 ⟨v,rfl,hD,hG⟩
     obtain⟨k1,k2,k3,k4,k5,k6,k7,rfl⟩:=qS hG HN.out;have HG:=hid hG;replace HC:=hid (HC.out.step hD);have hz5:=HC.out.size;obtain⟨⟨c0,c1,c2,c3,c4,c5⟩,fz⟩:=HC.out.own
     clear hD hG))
 obtain⟨f0,f1,f2,f3,f4,f5⟩:=HC.out.reada (.cells #[.int .i64 k1,.int .i64 k2,.int .i64 k3,.string k4,.slice k5 k6 k7] 116) (.int .i64 2) (.int .i64 0) (.string s) (.slice (some ⟨w5.heap.size,0,none⟩) 1 1) (.slice none 0 0) (.slice none 0 0);refine bodyPost_ret (v:=.agg #[.int .i64 2,.int .i64 0,.string s,.slice (some ⟨w5.heap.size,0,none⟩) 1 1,.slice none 0 0,.slice none 0 0]) (by simp[results,Tryz.results99,go_sem,f0,f1,f2,f3,f4,f5]) rfl ?_
 have hfr:∀ e,jc w4.heap.size w5 e (.agg #[.int .i64 k1,.int .i64 k2,.int .i64 k3,.string k4,.slice k5 k6 k7])→yI w.heap.size ((yo w5 w.heap.size (.int .i64 2) (.int .i64 0) (.string s) (.slice (some ⟨w5.heap.size,0,none⟩) 1 1) (.slice none 0 0) (.slice none 0 0)).alloc (.cells #[.int .i64 k1,.int .i64 k2,.int .i64 k3,.string k4,.slice k5 k6 k7] 116)) (.mk 2 0 s [e] [] []) (.agg #[.int .i64 2,.int .i64 0,.string s,.slice (some ⟨w5.heap.size,0,none⟩) 1 1,.slice none 0 0,.slice none 0 0]):=fun e he=>
  ⟨_,_,_,rfl,yF (jc.keep he (zD.nest6 hz4 _ _ _ _ _ _) Zr) (by omega) (by rw[ko];omega) (ko _ _ _ _ _ _ _ _).symm,qM _ _,qM _ _⟩
 have hG:=HG.out;have hGS:=HGS.out;refine HC.out.fina ?_ ?_
 · cases x1 with
   | ok s' r=>
     show ((zL [61] r).bind fun _ r=>(pE n 1 1 r).bind fun e r=>PR.ok (St.mk 2 0 s' [e] [] []) r).un=((zL [61] r).bind fun _ r=>pE n 1 1 r).un;rw[←zR,qr];rfl
   | _=>rfl
 · cases x1 with
   | ok s' r=>
     obtain rfl:s'=s:=hGS;have hG':qn (((zL [61] r).bind fun _ r=>pE n 1 1 r)) fun a=>jc w4.heap.size w5 a (.agg #[.int .i64 k1,.int .i64 k2,.int .i64 k3,.string k4,.slice k5 k6 k7]):=hG
     show qn ((zL [61] r).bind fun _ r=>(pE n 1 1 r).bind fun e r=>PR.ok (St.mk 2 0 s' [e] [] []) r) _;rw[←zR];exact hG'.bind (fun e r _ he=>hfr e he) fun e he=>⟨_,hfr e he⟩
   | bad r=>obtain⟨e,he⟩:=hG;exact⟨_,hfr e he⟩
   | deep r=>obtain⟨e,he⟩:=hG;exact⟨_,hfr e he⟩
   | out=>trivial
theorem qY.drew0 {b:Nat} {V:Value} {all:List Tok} {w w':World} {x:PR Unit} (h:qY b V all w.drew x w') (hb:b<w.heap.size):qY b V all w x w':=⟨h.1,(OffB.of_below (Below.refl w.heap.size w).drew hb).trans h.2⟩
theorem jF.drew {b:Nat} {V:Value} {all:List Tok} {w W:World} {x:PR Unit} (h:jF b V all w x W):jF b V all w x W.drew:=h.step ⟨h.st.below Zb.drew,OffB.of_below Zb.drew h.st.lt⟩
def putX (n:Nat) (s:ByteArray) (r:List Tok):PR St:=(pE n 1 1 r).bind fun e r=>(zL [93] r).bind fun _ r=>(zL [61] r).bind fun _ r=>(pE n 1 1 r).bind fun f r=>.ok (.mk 3 0 s [e,f] [] []) r
def putA (n:Nat) (r:List Tok):PR Unit:=(((PR.ok () r).bind fun _ r=>pE n 1 1 r).un.bind fun _ r=>zL [93] r).bind fun _ r=>zL [61] r
theorem put_ends {n:Nat} {s:ByteArray} {r:List Tok} (h:zG (putX n s r)):zG ((putA n r).bind fun _ r=>pE n 1 1 r):=by
 unfold putX at h;unfold putA;show zG ((((pE n 1 1 r).un.bind fun _ r=>zL [93] r).bind fun _ r=>zL [61] r).bind fun _ r=>pE n 1 1 r);cases hx:pE n 1 1 r with
 | ok e r=>
   rw[hx]at h;have h':zG ((zL [93] r).bind fun _ r=>(zL [61] r).bind fun _ r=>(pE n 1 1 r).bind fun f r=>.ok (St.mk 3 0 s [e,f] [] []) r):=h;show zG ((((zL [93] r)).bind fun _ r=>zL [61] r).bind fun _ r=>pE n 1 1 r);rw[←zR,←zR]at h';exact zo h'
 | bad r=>trivial
 | deep r=>trivial
 | out=>rw[hx]at h;exact h
theorem put_un {n:Nat} {s:ByteArray} {r:List Tok}:(putX n s r).un=((putA n r).bind fun _ r=>pE n 1 1 r).un:=by
 unfold putX putA;show _=((((pE n 1 1 r).un.bind fun _ r=>zL [93] r).bind fun _ r=>zL [61] r).bind fun _ r=>pE n 1 1 r).un;cases pE n 1 1 r with
 | ok e r=>
   show ((zL [93] r).bind fun _ r=>(zL [61] r).bind fun _ r=>(pE n 1 1 r).bind fun f r=>PR.ok (St.mk 3 0 s [e,f] [] []) r).un=((((zL [93] r)).bind fun _ r=>zL [61] r).bind fun _ r=>pE n 1 1 r).un;rw[←zR,←zR,qr];rfl
 | _=>rfl
theorem put_got {n:Nat} {s:ByteArray} {r:List Tok} {P1 P2:Ex→Prop} {Q:St→Prop} (h1:qn ((PR.ok () r).bind fun _ r=>pE n 1 1 r) P1) (h2:qn ((putA n r).bind fun _ r=>pE n 1 1 r) P2) (he:zG ((putA n r).bind fun _ r=>pE n 1 1 r)) (hq:∀ e f,P1 e→P2 f→Q (.mk 3 0 s [e,f] [] [])):qn (putX n s r) Q:=by
 obtain⟨f0,hf0⟩:=h2.some he;unfold putX;unfold putA at h2;cases hx:pE n 1 1 r with
 | ok e r1=>
   have hx':((PR.ok () r).bind fun _ r=>pE n 1 1 r)=.ok e r1:=hx;rw[hx']at h1 h2;show qn ((zL [93] r1).bind fun _ r=>(zL [61] r).bind fun _ r=>(pE n 1 1 r).bind fun f r=>PR.ok (St.mk 3 0 s [e,f] [] []) r) Q;have h2':qn ((((zL [93] r1)).bind fun _ r=>zL [61] r).bind fun _ r=>pE n 1 1 r) P2:=h2;rw[←zR,←zR];exact h2'.bind (fun f r _ hf=>hq e f h1 hf) fun f hf=>⟨_,hq e f h1 hf⟩
 | bad r1=>
   have hx':((PR.ok () r).bind fun _ r=>pE n 1 1 r)=.bad r1:=hx;rw[hx']at h1;obtain⟨e,he⟩:=h1;exact⟨_,hq e f0 he hf0⟩
 | deep r1=>
   have hx':((PR.ok () r).bind fun _ r=>pE n 1 1 r)=.deep r1:=hx;rw[hx']at h1;obtain⟨e,he⟩:=h1;exact⟨_,hq e f0 he hf0⟩
 | out=>trivial
theorem fr_two {L M g:Nat} {W:World} {e e2:Ex} {k op n k' op' n':Int} {s s':ByteArray} {u u':Value} {T:TypeId} (h:jc L W e (.agg #[.int .i64 k,.int .i64 op,.int .i64 n,.string s,u])) (h2:jc L W e2 (.agg #[.int .i64 k',.int .i64 op',.int .i64 n',.string s',u'])) (hM:M≤L) (hW:M≤W.heap.size) (hg:g=W.heap.size):
 zU M (W.alloc (.cells #[.int .i64 k,.int .i64 op,.int .i64 n,.string s,u,.int .i64 k',.int .i64 op',.int .i64 n',.string s',u'] T)) [e,e2] (.slice (some ⟨g,0,none⟩) 2 2):=by
 subst hg;have hk:=zD.of_below (L:=L) ((Below.refl W.heap.size W).alloc Zr (.cells #[.int .i64 k,.int .i64 op,.int .i64 n,.string s,u,.int .i64 k',.int .i64 op',.int .i64 n',.string s',u'] T));obtain⟨args,rfl,hn,hs⟩:=exV_at (h.keep hk hM);obtain⟨args2,rfl,hn2,hs2⟩:=exV_at (h2.keep hk hM);exact slE_at2 (w:=mask (yd M) _) (b:=W.heap.size) ((uo (qG.2 hW)).trans (heap_alloc_new W _)) (by simp) hn hs hn2 hs2
theorem named_put {b:Nat} {V:Value} {all:List Tok} {n:Nat} {x:PR Unit} {w:World} {s:ByteArray} {r:List Tok} (h:qx b V all x w) (hx:(x.bind fun _ r=>qP 1 r)=.ok s r) (h7:z6 [40] r=false) (h8:z6 [91] r=true) (hn:zG (x.bind fun _ r=>pNm n r)):
 Calls Tryz.prog 99 #[.pointer (some ⟨b,0,none⟩)] w (qF b V all w (x.bind fun _ r=>pNm n r) (yI w.heap.size)):=by
 have ex:(x.bind fun _ r=>pNm n r)=putX n s r.tail:=by
  rw[pNm_split,hx];show (if z6 [40] r=true then _ else _)=_;rw[if_neg (by rw[h7];decide),if_pos h8];rfl
 rw[ex]at hn ⊢;have hn2:=put_ends hn;have HN1:=hid (show zG ((PR.ok () r.tail).bind fun _ r=>pE n 1 1 r) from zo hn);have HN2:=hid hn2;have HC:=hid (jF.start h);have HX:=hid hx;have HY1:=hid (show zP (⟨#[40]⟩:ByteArray).data.toList (PR.ok () r)=false from h7);have HY2:=hid (show zP (⟨#[91]⟩:ByteArray).data.toList (PR.ok () r)=true from h8);have HE:=hid (xW (b:=b) (V:=V) (all:=all) (n:=n) (d:=1) (by decide) (by decide));have hbw:=h.lt;clear h hx h7 h8 hn ex hn2;go_enter Tryz.func99,Tryz.ntmps99
 go_wp2_with (first
  | (go_at_call 41;(with_reducible refine(xB HC.out.st 1 (by decide)).mono ?_);rintro e w1 ⟨s',rfl,hD,hG⟩
     rw[HX.out]at hD hG;obtain rfl:s=s':=hG;replace HC:=hid (show jF b V all w (.ok () r) w1 from HC.out.step hD)
     clear hD)
  | (go_at_call 42;(with_reducible refine(zF HC.out.st _ HY1.out).mono ?_);rintro e w2 ⟨rfl,hD⟩;replace HC:=hid (HC.out.step hD);clear hD)
  | (go_at_call 42;(with_reducible refine(zb HC.out.st _ HY2.out).mono ?_);rintro e w3 ⟨rfl,hD⟩
     replace HC:=hid (show jF b V all w (.ok () r.tail) w3 from HC.out.step hD);have hz3:=HC.out.size
     clear hD)
  | (go_at_call 97;(with_reducible refine(HE.out.call HC.out.st HN1.out).mono ?_);rintro e w4 ⟨v,rfl,hD,hG⟩
     obtain⟨k1,k2,k3,k4,k5,k6,k7,rfl⟩:=qS hG HN1.out;have HG:=hid hG;have hb3:=HC.out.st.lt;replace HC:=hid (HC.out.step hD);have hz4:=HC.out.size;have hb4:w4.heap.size≠b:=by have:=HC.out.st.lt;omega
     have h34:=hD.off.size
     clear hD hG)
  | (go_at_call 44;(with_reducible refine(zW (HC.out.alloc (.cells #[.int .i64 k1,.int .i64 k2,.int .i64 k3,.string k4,.slice k5 k6 k7] 116)).st ⟨#[93]⟩).mono ?_);rintro e w5 ⟨rfl,hD⟩
     have HK5:=hid ((zD.of_below (L:=w3.heap.size) (Zb.alloc Zr _)).trans (zD.did hD hb3));have HR5:=hid (qW hD.off (k:=w4.heap.size) (by simp) hb4 (heap_alloc_new w4 _));replace HC:=hid (show jF b V all w (((PR.ok () r.tail).bind fun _ r=>pE n 1 1 r).un.bind fun _ r=>zL [93] r) w5 from(HC.out.alloc _).step hD);have hz5:w4.heap.size<w5.heap.size:=(Array.getElem?_eq_some_iff.1 HR5.out).1
     clear hD)
  | (go_at_call 44;(with_reducible refine(zW HC.out.st ⟨#[61]⟩).mono ?_);rintro e w6 ⟨rfl,hD⟩
     have HK6:=hid (HK5.out.trans (zD.did hD hb3));have hr6:=qW hD.off (k:=w4.heap.size) hz5 hb4 HR5.out;have HR6:=hid hr6;obtain⟨⟨p0,p1,p2,p3,p4⟩,pz⟩:=qK hr6;replace HC:=hid (show jF b V all w (putA n r.tail) w6 from HC.out.step hD);have hz6:w4.heap.size<w6.heap.size:=(Array.getElem?_eq_some_iff.1 hr6).1
     clear hD hr6))
 go_region_held3 (fun w'=>w'.cell? ⟨w4.heap.size,0,none⟩=some (.int .i64 k1)∧w'.cell? ⟨w4.heap.size,1,none⟩=some (.int .i64 k2)∧w'.cell? ⟨w4.heap.size,2,none⟩=some (.int .i64 k3)∧w'.cell? ⟨w4.heap.size,3,none⟩=some (.string k4)∧w'.cell? ⟨w4.heap.size,4,none⟩=some (.slice k5 k6 k7))
  (first
    | (go_split_ands;refine⟨?_,?_,?_,?_,?_⟩ <;> (rw[hk7];assumption))
    | (go_split_ands;refine⟨?_,?_,?_,?_,?_⟩ <;> (rw[hk8];assumption))
    | go_keep)
  (first
    | (go_at_call 97;(refine(HE.out.call (HC.out.drew).st HN2.out).mono ?_);rintro e w7 ⟨v,rfl,hD,hG⟩
       obtain⟨j1,j2,j3,j4,j5,j6,j7,rfl⟩:=qS hG HN2.out;have HG2:=hid hG;have hk7:∀ o,w7.cell? ⟨w4.heap.size,o,none⟩=w6.cell? ⟨w4.heap.size,o,none⟩:=(off_own hD.off (k:=w4.heap.size) hz6 hb4).1;have HK7:=hid (HK6.out.trans (zD.did (hD.drew0 HC.out.st.lt) hb3));have h67:=hD.off.size;have hr7:=qW hD.off (k:=w4.heap.size) hz6 hb4 HR6.out
       have hk8:∀ (c0 c1 c2 c3 c4 c5:Value) (o':Obj) (j:Nat),((yo w7 w.heap.size c0 c1 c2 c3 c4 c5).alloc o').cell? ⟨w4.heap.size,j,none⟩=w6.cell? ⟨w4.heap.size,j,none⟩:=fun c0 c1 c2 c3 c4 c5 o' j=>
        (Lib.cell_of_heap (zc ((nest6_other (show w4.heap.size≠w.heap.size by omega) c0 c1 c2 c3 c4 c5).trans hr7) o') j).trans (Lib.cell_of_heap HR6.out j).symm
       replace HC:=hid (HC.out.drew.step hD);have hz7:=HC.out.size;obtain⟨⟨c0,c1,c2,c3,c4,c5⟩,fz⟩:=HC.out.own
       clear hD hG))
 go_wp2_with (fail);obtain⟨f0,f1,f2,f3,f4,f5⟩:=HC.out.reada (.cells #[.int .i64 k1,.int .i64 k2,.int .i64 k3,.string k4,.slice k5 k6 k7,.int .i64 j1,.int .i64 j2,.int .i64 j3,.string j4,.slice j5 j6 j7] 116) (.int .i64 3) (.int .i64 0) (.string s) (.slice (some ⟨w7.heap.size,0,none⟩) 2 2) (.slice none 0 0) (.slice none 0 0);refine bodyPost_ret (v:=.agg #[.int .i64 3,.int .i64 0,.string s,.slice (some ⟨w7.heap.size,0,none⟩) 2 2,.slice none 0 0,.slice none 0 0]) (by simp[results,Tryz.results99,go_sem,f0,f1,f2,f3,f4,f5]) rfl ?_;refine HC.out.fina put_un (put_got HG.out HG2.out HN2.out fun e f he hf=>?_);refine⟨_,_,_,rfl,?_,qM _ _,qM _ _⟩;refine fr_two (L:=w3.heap.size) (jc.keep he (HK7.out.trans (zD.nest6 hz3 _ _ _ _ _ _)) Zr) (jc.keep hf (zD.nest6 (by show w.heap.size<w6.heap.size;omega) _ _ _ _ _ _) (by show w3.heap.size≤w6.heap.size;omega)) (by omega) (by rw[ko];omega) (ko _ _ _ _ _ _ _ _).symm
theorem named_any {b:Nat} {V:Value} {all:List Tok} {n:Nat} {x:PR Unit} {w:World} (h:qx b V all x w) (hn:zG (x.bind fun _ r=>pNm n r)):
 Calls Tryz.prog 99 #[.pointer (some ⟨b,0,none⟩)] w (qF b V all w (x.bind fun _ r=>pNm n r) (yI w.heap.size)):=by
 cases hx:(x.bind fun _ r=>qP 1 r) with
 | ok s r=>
   cases h7:z6 [40] r with
   | true=>exact named_call h hx h7 hn
   | false=>
     cases h8:z6 [91] r with
     | true=>exact named_put h hx h7 h8 hn
     | false=>exact vm h (by rw[hx];exact h7) (by rw[hx];exact h8) hn
 | bad r=>exact vm h (by rw[hx];rfl) (by rw[hx];rfl) hn
 | deep r=>exact vm h (by rw[hx];rfl) (by rw[hx];rfl) hn
 | out=>exact vm h (by rw[hx];rfl) (by rw[hx];rfl) hn
end Go.Proofs.YtfghofifjnbicaaGreatDoor
