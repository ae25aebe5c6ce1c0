import Derived.Test.YtfghofifjnbicaaGreatDoorAgTokScan
import Derived.Test.YtfghofifjnbicaaGreatDoorAgTyRw
import Derived.Deep.QuietTactic
import Derived.BigQuiet
set_option linter.unusedSimpArgs false
set_option linter.unusedVariables false
set_option maxRecDepth 100000
/- The document's parser: what has no operator, way by way. (By tools/gen_parprim.py.) -/
namespace Go.Proofs.YtfghofifjnbicaaGreatDoor
open Lib (hid)
open Go.RowKit
theorem yV {b:Nat} {V:Value} {all:List Tok} {x:PR Unit} {w:World} (h:jA b V all x w) (ho:zg x=true) (d:Int):
 Calls Tryz.prog 119 #[.pointer (some ⟨b,0,none⟩),.int .i64 d] w fun e w'=>e=.returned ex0V∧qV b V all w x w':=by
 have HC:=hid (jT.start h);have HO:=hid ho;clear h ho;go_enter Tryz.func119,Tryz.ntmps119;go_wp2_with (go_at_call 39;(with_reducible refine(zl HC.out.st true HO.out).mono ?_);rintro e w1 ⟨rfl,rfl⟩);exact bodyPost_ret (v:=ex0V) (by simp[results,Tryz.results119,go_sem,ex0V]) rfl ⟨rfl,HC.out.did⟩
theorem prim_true {b:Nat} {V:Value} {all r:List Tok} {w:World} {n:Nat} {d:Int} (h:zT b V all r false false w) (hd:0≤d∧d≤1000) (h1:z6 [40] r=false) (h2:z6 uF r=true):
 Calls Tryz.prog 119 #[.pointer (some ⟨b,0,none⟩),.int .i64 d] w (qG b V all w (pP (n+1) d r) (jf w.heap.size)):=by
 obtain⟨hd0,hd1⟩:=hd;have hlt:=h.lt;have HC:=hid (jT.start (x:=.ok () r) h);have ex:pP (n+1) d r=.ok (.mk 2 0 1 bE []) r.tail:=by rw[pP,h1,h2,if_neg (by decide),if_pos rfl]
 rw[ex];have N1:=hid (show zP (⟨#[40]⟩:ByteArray).data.toList (PR.ok () r)=false from h1);have Y1:=hid (show zP (⟨#[116,114,117,101]⟩:ByteArray).data.toList (PR.ok () r)=true from h2);clear h h1 h2 ex;go_enter Tryz.func119,Tryz.ntmps119
 go_wp2_with (first
  | (go_at_call 39;(with_reducible refine(zl HC.out.st false rfl).mono ?_);rintro e w1 ⟨rfl,rfl⟩)
  | (go_at_call 42;(with_reducible refine(zF HC.out.st _ N1.out).mono ?_);rintro e w1 ⟨rfl,hD⟩
     replace HC:=hid (HC.out.step hD);clear hD
     obtain⟨⟨c0,c1,c2,c3,c4⟩,fz⟩:=HC.out.own)
  | (go_at_call 42;(with_reducible refine(zb HC.out.st _ Y1.out).mono ?_);rintro e w1 ⟨rfl,hD⟩
     replace HC:=hid (show jT b _ all w (.ok () r.tail) w1 from HC.out.step hD);clear hD
     obtain⟨⟨c0,c1,c2,c3,c4⟩,fz⟩:=HC.out.own))
 obtain⟨f0,f1,f2,f3,f4⟩:=HC.out.read (.int .i64 2) (.int .i64 0) (.int .i64 1) (.string ⟨#[]⟩) (.slice none 0 0);refine bodyPost_ret (v:=.agg #[.int .i64 2,.int .i64 0,.int .i64 1,.string ⟨#[]⟩,.slice none 0 0]) (by simp[results,Tryz.results119,go_sem,f0,f1,f2,f3,f4]) rfl ?_;exact HC.out.fin (rfl) (yh _ _ 2 0 1 bE (by constructor <;> decide))
theorem prim_false {b:Nat} {V:Value} {all r:List Tok} {w:World} {n:Nat} {d:Int} (h:zT b V all r false false w) (hd:0≤d∧d≤1000) (h1:z6 [40] r=false) (h2:z6 uF r=false) (h3:z6 yb r=true):
 Calls Tryz.prog 119 #[.pointer (some ⟨b,0,none⟩),.int .i64 d] w (qG b V all w (pP (n+1) d r) (jf w.heap.size)):=by
 obtain⟨hd0,hd1⟩:=hd;have hlt:=h.lt;have HC:=hid (jT.start (x:=.ok () r) h);have ex:pP (n+1) d r=.ok (.mk 2 0 0 bE []) r.tail:=by rw[pP,h1,h2,h3,if_neg (by decide),if_neg (by decide),if_pos rfl]
 rw[ex];have N1:=hid (show zP (⟨#[40]⟩:ByteArray).data.toList (PR.ok () r)=false from h1);have N2:=hid (show zP (⟨#[116,114,117,101]⟩:ByteArray).data.toList (PR.ok () r)=false from h2);have Y1:=hid (show zP (⟨#[102,97,108,115,101]⟩:ByteArray).data.toList (PR.ok () r)=true from h3);clear h h1 h2 h3 ex;go_enter Tryz.func119,Tryz.ntmps119
 go_wp2_with (first
  | (go_at_call 39;(with_reducible refine(zl HC.out.st false rfl).mono ?_);rintro e w1 ⟨rfl,rfl⟩)
  | (go_at_call 42;(with_reducible refine(zF HC.out.st _ N1.out).mono ?_);rintro e w1 ⟨rfl,hD⟩
     replace HC:=hid (HC.out.step hD);clear hD
     obtain⟨⟨c0,c1,c2,c3,c4⟩,fz⟩:=HC.out.own)
  | (go_at_call 42;(with_reducible refine(zF HC.out.st _ N2.out).mono ?_);rintro e w1 ⟨rfl,hD⟩
     replace HC:=hid (HC.out.step hD);clear hD
     obtain⟨⟨c0,c1,c2,c3,c4⟩,fz⟩:=HC.out.own)
  | (go_at_call 42;(with_reducible refine(zb HC.out.st _ Y1.out).mono ?_);rintro e w1 ⟨rfl,hD⟩
     replace HC:=hid (show jT b _ all w (.ok () r.tail) w1 from HC.out.step hD);clear hD
     obtain⟨⟨c0,c1,c2,c3,c4⟩,fz⟩:=HC.out.own))
 obtain⟨f0,f1,f2,f3,f4⟩:=HC.out.read (.int .i64 2) (.int .i64 0) (.int .i64 0) (.string ⟨#[]⟩) (.slice none 0 0);refine bodyPost_ret (v:=.agg #[.int .i64 2,.int .i64 0,.int .i64 0,.string ⟨#[]⟩,.slice none 0 0]) (by simp[results,Tryz.results119,go_sem,f0,f1,f2,f3,f4]) rfl ?_;exact HC.out.fin (rfl) (yh _ _ 2 0 0 bE (by constructor <;> decide))
theorem prim_read {b:Nat} {V:Value} {all r:List Tok} {w:World} {n:Nat} {d:Int} (h:zT b V all r false false w) (hd:0≤d∧d≤1000) (h1:z6 [40] r=false) (h2:z6 uF r=false) (h3:z6 yb r=false) (h4:z6 sRead r=true):
 Calls Tryz.prog 119 #[.pointer (some ⟨b,0,none⟩),.int .i64 d] w (qG b V all w (pP (n+1) d r) (jf w.heap.size)):=by
 obtain⟨hd0,hd1⟩:=hd;have hlt:=h.lt;have HC:=hid (jT.start (x:=.ok () r) h);have ex:pP (n+1) d r=(zL [40] r.tail).bind fun _ r=>(zL [41] r).bind fun _ r=>.ok (.mk 8 0 0 bE []) r:=by rw[pP,h1,h2,h3,h4,if_neg (by decide),if_neg (by decide),if_neg (by decide),if_pos rfl]
 rw[ex];have N1:=hid (show zP (⟨#[40]⟩:ByteArray).data.toList (PR.ok () r)=false from h1);have N2:=hid (show zP (⟨#[116,114,117,101]⟩:ByteArray).data.toList (PR.ok () r)=false from h2);have N3:=hid (show zP (⟨#[102,97,108,115,101]⟩:ByteArray).data.toList (PR.ok () r)=false from h3);have Y1:=hid (show zP (⟨#[114,101,97,100]⟩:ByteArray).data.toList (PR.ok () r)=true from h4);clear h h1 h2 h3 h4 ex;go_enter Tryz.func119,Tryz.ntmps119
 go_wp2_with (first
  | (go_at_call 39;(with_reducible refine(zl HC.out.st false rfl).mono ?_);rintro e w1 ⟨rfl,rfl⟩)
  | (go_at_call 42;(with_reducible refine(zF HC.out.st _ N1.out).mono ?_);rintro e w1 ⟨rfl,hD⟩
     replace HC:=hid (HC.out.step hD);clear hD
     obtain⟨⟨c0,c1,c2,c3,c4⟩,fz⟩:=HC.out.own)
  | (go_at_call 42;(with_reducible refine(zF HC.out.st _ N2.out).mono ?_);rintro e w1 ⟨rfl,hD⟩
     replace HC:=hid (HC.out.step hD);clear hD
     obtain⟨⟨c0,c1,c2,c3,c4⟩,fz⟩:=HC.out.own)
  | (go_at_call 42;(with_reducible refine(zF HC.out.st _ N3.out).mono ?_);rintro e w1 ⟨rfl,hD⟩
     replace HC:=hid (HC.out.step hD);clear hD
     obtain⟨⟨c0,c1,c2,c3,c4⟩,fz⟩:=HC.out.own)
  | (go_at_call 42;(with_reducible refine(zb HC.out.st _ Y1.out).mono ?_);rintro e w1 ⟨rfl,hD⟩
     replace HC:=hid (show jT b _ all w (.ok () r.tail) w1 from HC.out.step hD);clear hD
     obtain⟨⟨c0,c1,c2,c3,c4⟩,fz⟩:=HC.out.own)
  | (go_at_call 44;(with_reducible refine(zX HC.out.st ⟨#[40]⟩).mono ?_);rintro e w1 ⟨rfl,hD⟩
     replace HC:=hid (show jT b _ all w (zL [40] r.tail) w1 from HC.out.step hD)
     clear hD)
  | (go_at_call 44;(with_reducible refine(zX HC.out.st ⟨#[41]⟩).mono ?_);rintro e w1 ⟨rfl,hD⟩
     replace HC:=hid (show jT b _ all w ((zL [40] r.tail).bind fun _ r=>zL [41] r) w1 from HC.out.step hD);clear hD
     obtain⟨⟨c0,c1,c2,c3,c4⟩,fz⟩:=HC.out.own))
 obtain⟨f0,f1,f2,f3,f4⟩:=HC.out.read (.int .i64 8) (.int .i64 0) (.int .i64 0) (.string ⟨#[]⟩) (.slice none 0 0);refine bodyPost_ret (v:=.agg #[.int .i64 8,.int .i64 0,.int .i64 0,.string ⟨#[]⟩,.slice none 0 0]) (by simp[results,Tryz.results119,go_sem,f0,f1,f2,f3,f4]) rfl ?_;exact HC.out.fin (by rw[qu];simp only[kE]) (qo.bind (P:=fun _=>True) (by unfold zL;split;trivial;exact⟨(),trivial⟩) (fun _ r _ _=>xh (yh _ _ 8 0 0 bE (by constructor <;> decide))) (fun _ _=>⟨_,yh _ _ 8 0 0 bE (by constructor <;> decide)⟩))
theorem prim_paren {b:Nat} {V:Value} {all r:List Tok} {w:World} {n:Nat} {d:Int} (hE:CE b V all n 1 (d+1)) (h:zT b V all r false false w) (hd:0≤d∧d≤1000) (h1:z6 [40] r=true) (hn:zG (pP (n+1) d r)):
 Calls Tryz.prog 119 #[.pointer (some ⟨b,0,none⟩),.int .i64 d] w (qG b V all w (pP (n+1) d r) (jf w.heap.size)):=by
 obtain⟨hd0,hd1⟩:=hd;have hlt:=h.lt;have HC:=hid (jT.start (x:=.ok () r) h);rw[pP,if_pos h1]at hn ⊢;have Y1:=hid (show zP (⟨#[40]⟩:ByteArray).data.toList (PR.ok () r)=true from h1);have HN:=hid (show zG ((PR.ok () r.tail).bind fun _ r=>pE n 1 (d+1) r) from zo hn);have HE:=hid hE;clear h h1 hn hE;go_enter Tryz.func119,Tryz.ntmps119
 go_wp2_with (first
  | (go_at_call 39;(with_reducible refine(zl HC.out.st false rfl).mono ?_);rintro e w1 ⟨rfl,rfl⟩)
  | (go_at_call 42;(with_reducible refine(zb HC.out.st _ Y1.out).mono ?_);rintro e w1 ⟨rfl,hD⟩
     replace HC:=hid (show jT b _ all w (.ok () r.tail) w1 from HC.out.step hD);clear hD
     have hz1:=HC.out.size)
  | (go_at_call 97;(with_reducible refine(HE.out.call HC.out.st HN.out).mono ?_);rintro e w2 ⟨v,rfl,hD,hG2⟩
     obtain⟨k1,k2,k3,k4,k5,k6,k7,rfl⟩:=qT hG2 HN.out;have HG2:=hid hG2;have hb1:=HC.out.st.lt;replace HC:=hid (HC.out.step hD);have hb2:w2.heap.size≠b:=by have:=HC.out.st.lt;omega
     clear hD hG2)
  | (go_at_call 44;(with_reducible refine(zX (HC.out.alloc _).st _).mono ?_);rintro e w3 ⟨rfl,hD⟩
     have hk:=(zD.of_below (L:=w1.heap.size) ((Below.refl _ _).alloc (Nat.le_refl _) _)).trans (zD.did hD hb1);have HK:=hid hk;obtain⟨p3,r3⟩:=off_own hD.off (k:=w2.heap.size) (by simp) hb2;replace HC:=hid ((HC.out.alloc _).step hD);clear hD hk
     obtain⟨⟨c0,c1,c2,c3,c4⟩,fz⟩:=HC.out.own))
 obtain⟨f0,f1,f2,f3,f4⟩:=HC.out.read (.int .i64 k1) (.int .i64 k2) (.int .i64 k3) (.string k4) (.slice k5 k6 k7);refine bodyPost_ret (v:=.agg #[.int .i64 k1,.int .i64 k2,.int .i64 k3,.string k4,.slice k5 k6 k7]) (by simp[results,Tryz.results119,go_sem,f0,f1,f2,f3,f4]) rfl ?_;refine HC.out.fin ?_ ((HG2.out.imp fun a ha=>(jf.keep ha HK.out (Nat.le_refl _)).writ hz1 _ _ _ _ _).bind (fun a r _ ha=>xh ha) fun a ha=>⟨a,ha⟩);rw[qu];simp only[kE];rw[←bind_un];rfl
theorem prim_num {b:Nat} {V:Value} {all r:List Tok} {w:World} {n:Nat} {d:Int} (h:zT b V all r false false w) (hd:0≤d∧d≤1000) (h1:z6 [40] r=false) (h2:z6 uF r=false) (h3:z6 yb r=false) (h4:z6 sRead r=false) (h5:yq r=0):
 Calls Tryz.prog 119 #[.pointer (some ⟨b,0,none⟩),.int .i64 d] w (qG b V all w (pP (n+1) d r) (jf w.heap.size)):=by
 obtain⟨hd0,hd1⟩:=hd;have hlt:=h.lt;have HC:=hid (jT.start (x:=.ok () r) h);have hnum:=h.num h5;have ex:pP (n+1) d r=.ok (.mk 1 0 (jU 0 (hdT r)) bE []) r.tail:=by rw[pP,h1,h2,h3,h4,if_neg (by decide),if_neg (by decide),if_neg (by decide),if_neg (by decide),if_pos h5]
 rw[ex];have N1:=hid (show zP (⟨#[40]⟩:ByteArray).data.toList (PR.ok () r)=false from h1);have N2:=hid (show zP (⟨#[116,114,117,101]⟩:ByteArray).data.toList (PR.ok () r)=false from h2);have N3:=hid (show zP (⟨#[102,97,108,115,101]⟩:ByteArray).data.toList (PR.ok () r)=false from h3);have N4:=hid (show zP (⟨#[114,101,97,100]⟩:ByteArray).data.toList (PR.ok () r)=false from h4);have H5:=hid h5;have HNU:=hid hnum;clear h h1 h2 h3 h4 h5 ex hnum;go_enter Tryz.func119,Tryz.ntmps119
 go_wp2_with (first
  | (go_at_call 39;(with_reducible refine(zl HC.out.st false rfl).mono ?_);rintro e w1 ⟨rfl,rfl⟩)
  | (go_at_call 42;(with_reducible refine(zF HC.out.st _ N1.out).mono ?_);rintro e w1 ⟨rfl,hD⟩
     replace HC:=hid (HC.out.step hD);clear hD
     obtain⟨⟨c0,c1,c2,c3,c4⟩,fz⟩:=HC.out.own)
  | (go_at_call 42;(with_reducible refine(zF HC.out.st _ N2.out).mono ?_);rintro e w1 ⟨rfl,hD⟩
     replace HC:=hid (HC.out.step hD);clear hD
     obtain⟨⟨c0,c1,c2,c3,c4⟩,fz⟩:=HC.out.own)
  | (go_at_call 42;(with_reducible refine(zF HC.out.st _ N3.out).mono ?_);rintro e w1 ⟨rfl,hD⟩
     replace HC:=hid (HC.out.step hD);clear hD
     obtain⟨⟨c0,c1,c2,c3,c4⟩,fz⟩:=HC.out.own)
  | (go_at_call 42;(with_reducible refine(zF HC.out.st _ N4.out).mono ?_);rintro e w1 ⟨rfl,hD⟩
     replace HC:=hid (HC.out.step hD);clear hD
     obtain⟨⟨c0,c1,c2,c3,c4⟩,fz⟩:=HC.out.own))
 obtain⟨g,c,k,t,q,rfl,rfl,hk,hklt,hl,b0,b1,b2,b3,t0,t1,t2⟩:=(show zT b V all r false false w1 from HC.out.st).tok;have hklt2:(k:Int)<all.length:=by omega
 clear hk;rw[show t.kind=0 from H5.out]at t0
 go_quiet (fail)
 replace HC:=hid (HC.out.drewN nq);clear b0 b1 b2 b3 t0 t1 t2;obtain⟨m,hm⟩:∃ m:Nat,jU 0 (⟨t.text.toArray⟩:ByteArray).data.toList=m:=⟨_,rfl⟩
 have hm2:m<9223372036854775808:=by rw[←hm];exact HNU.out.2.2
 have HM:=hid hm;clear hm
 go_wp2_with (first
  | (go_at_call 41;(with_reducible refine(vP HC.out.st 0 (by decide) H5.out ⟨t.text.toArray⟩ rfl).mono ?_);rintro e w2 ⟨rfl,hD⟩
     replace HC:=hid (HC.out.step hD);clear hD
     obtain⟨⟨c0,c1,c2,c3,c4⟩,fz⟩:=HC.out.own)
  | (go_at_call 43;(refine(rvalue_num ⟨t.text.toArray⟩ _ HNU.out.1 HNU.out.2.1).mono ?_);rintro e w3 ⟨rfl,rfl⟩;rw[HM.out]))
 have eN:Ex.mk 1 0 (jU 0 (hdT (t :: q)):Nat) bE []=.mk 1 0 m bE []:=congrArg (fun x:Nat=>Ex.mk 1 0 x bE []) HM.out;rw[eN];obtain⟨f0,f1,f2,f3,f4⟩:=HC.out.read (.int .i64 1) (.int .i64 0) (.int .i64 m) (.string ⟨#[]⟩) (.slice none 0 0);refine bodyPost_ret (v:=.agg #[.int .i64 1,.int .i64 0,.int .i64 m,.string ⟨#[]⟩,.slice none 0 0]) (by simp[results,Tryz.results119,go_sem,f0,f1,f2,f3,f4]) rfl ?_;exact HC.out.fin (rfl) (yh _ _ 1 0 m bE (by unfold uB;omega))
theorem prim_bad {b:Nat} {V:Value} {all r:List Tok} {w:World} {n:Nat} {d:Int} (h:zT b V all r false false w) (hd:0≤d∧d≤1000) (h1:z6 [40] r=false) (h2:z6 uF r=false) (h3:z6 yb r=false) (h4:z6 sRead r=false) (h5:yq r≠0) (h6:yq r≠1):
 Calls Tryz.prog 119 #[.pointer (some ⟨b,0,none⟩),.int .i64 d] w (qG b V all w (pP (n+1) d r) (jf w.heap.size)):=by
 obtain⟨hd0,hd1⟩:=hd;have hlt:=h.lt;have HC:=hid (jT.start (x:=.ok () r) h);have ex:pP (n+1) d r=.bad r:=by rw[pP,h1,h2,h3,h4,if_neg (by decide),if_neg (by decide),if_neg (by decide),if_neg (by decide),if_neg h5];unfold qQ;rw[if_neg h6];rfl
 rw[ex];have N1:=hid (show zP (⟨#[40]⟩:ByteArray).data.toList (PR.ok () r)=false from h1);have N2:=hid (show zP (⟨#[116,114,117,101]⟩:ByteArray).data.toList (PR.ok () r)=false from h2);have N3:=hid (show zP (⟨#[102,97,108,115,101]⟩:ByteArray).data.toList (PR.ok () r)=false from h3);have N4:=hid (show zP (⟨#[114,101,97,100]⟩:ByteArray).data.toList (PR.ok () r)=false from h4);have H5:=hid h5;have H6:=hid h6;have B1:=hid (show zP (⟨#[40]⟩:ByteArray).data.toList ((PR.bad r:PR Unit))=false from rfl);have B2:=hid (show zP (⟨#[91]⟩:ByteArray).data.toList ((PR.bad r:PR Unit))=false from rfl);clear h h1 h2 h3 h4 h5 h6 ex;go_enter Tryz.func119,Tryz.ntmps119
 go_wp2_with (first
  | (go_at_call 39;(with_reducible refine(zl HC.out.st false rfl).mono ?_);rintro e w1 ⟨rfl,rfl⟩)
  | (go_at_call 42;(with_reducible refine(zF HC.out.st _ N1.out).mono ?_);rintro e w1 ⟨rfl,hD⟩
     replace HC:=hid (HC.out.step hD);clear hD
     obtain⟨⟨c0,c1,c2,c3,c4⟩,fz⟩:=HC.out.own)
  | (go_at_call 42;(with_reducible refine(zF HC.out.st _ N2.out).mono ?_);rintro e w1 ⟨rfl,hD⟩
     replace HC:=hid (HC.out.step hD);clear hD
     obtain⟨⟨c0,c1,c2,c3,c4⟩,fz⟩:=HC.out.own)
  | (go_at_call 42;(with_reducible refine(zF HC.out.st _ N3.out).mono ?_);rintro e w1 ⟨rfl,hD⟩
     replace HC:=hid (HC.out.step hD);clear hD
     obtain⟨⟨c0,c1,c2,c3,c4⟩,fz⟩:=HC.out.own)
  | (go_at_call 42;(with_reducible refine(zF HC.out.st _ N4.out).mono ?_);rintro e w1 ⟨rfl,hD⟩
     replace HC:=hid (HC.out.step hD);clear hD
     obtain⟨⟨c0,c1,c2,c3,c4⟩,fz⟩:=HC.out.own))
 obtain⟨g,c,k,t,q,rfl,rfl,hk,hklt,hl,b0,b1,b2,b3,t0,t1,t2⟩:=(show zT b V all r false false w1 from HC.out.st).tok;have hklt2:(k:Int)<all.length:=by omega
 clear hk;have hk0:(t.kind == 0)=false:=by have:=H5.out;simpa[yq] using this
 go_quiet (fail)
 replace HC:=hid (HC.out.drewN nq);clear b0 b1 b2 b3 t0 t1 t2
 go_wp2_with (first
  | (go_at_call 41;(with_reducible refine(text_no HC.out.st 1 (by decide) H6.out).mono ?_);rintro e w2 ⟨s,rfl,hD⟩
     replace HC:=hid (HC.out.step hD)
     clear hD)
  | (go_at_call 42;(with_reducible refine(zF HC.out.st _ B1.out).mono ?_);rintro e w1 ⟨rfl,hD⟩
     replace HC:=hid (HC.out.step hD);clear hD
     obtain⟨⟨c0,c1,c2,c3,c4⟩,fz⟩:=HC.out.own)
  | (go_at_call 42;(with_reducible refine(zF HC.out.st _ B2.out).mono ?_);rintro e w1 ⟨rfl,hD⟩
     replace HC:=hid (HC.out.step hD);clear hD
     obtain⟨⟨c0,c1,c2,c3,c4⟩,fz⟩:=HC.out.own))
 obtain⟨f0,f1,f2,f3,f4⟩:=HC.out.read (.int .i64 3) (.int .i64 0) (.int .i64 0) (.string s) (.slice none 0 0);refine bodyPost_ret (v:=.agg #[.int .i64 3,.int .i64 0,.int .i64 0,.string s,.slice none 0 0]) (by simp[results,Tryz.results119,go_sem,f0,f1,f2,f3,f4]) rfl ?_;exact HC.out.fin (rfl) (⟨_,yh _ _ 3 0 0 s (by constructor <;> decide)⟩)
theorem prim_name {b:Nat} {V:Value} {all r:List Tok} {w:World} {n:Nat} {d:Int} (h:zT b V all r false false w) (hd:0≤d∧d≤1000) (h1:z6 [40] r=false) (h2:z6 uF r=false) (h3:z6 yb r=false) (h4:z6 sRead r=false) (h6:yq r=1) (h7:z6 [40] r.tail=false) (h8:z6 [91] r.tail=false) (hn:zG (pP (n+1) d r)):
 Calls Tryz.prog 119 #[.pointer (some ⟨b,0,none⟩),.int .i64 d] w (qG b V all w (pP (n+1) d r) (jf w.heap.size)):=by
 obtain⟨hd0,hd1⟩:=hd;have hlt:=h.lt;have HC:=hid (jT.start (x:=.ok () r) h);obtain⟨s,hs⟩:∃ s:ByteArray,s=⟨(hdT r).toArray⟩:=⟨_,rfl⟩
 have h5:yq r≠0:=by rw[h6];decide
 have ex:pP (n+1) d r=pN n d s r.tail:=by rw[pP,h1,h2,h3,h4,if_neg (by decide),if_neg (by decide),if_neg (by decide),if_neg (by decide),if_neg h5,hs];unfold qQ;rw[if_pos h6];rfl
 cases n with
 | zero=>rw[ex,pN]at hn;exact absurd hn id
 | succ n=>
 have ey:pN (n+1) d s r.tail=.ok (.mk 3 0 0 s []) r.tail:=by rw[pN,h7,h8,if_neg (by decide),if_neg (by decide)]
 rw[ex,ey];have N1:=hid (show zP (⟨#[40]⟩:ByteArray).data.toList (PR.ok () r)=false from h1);have N2:=hid (show zP (⟨#[116,114,117,101]⟩:ByteArray).data.toList (PR.ok () r)=false from h2);have N3:=hid (show zP (⟨#[102,97,108,115,101]⟩:ByteArray).data.toList (PR.ok () r)=false from h3);have N4:=hid (show zP (⟨#[114,101,97,100]⟩:ByteArray).data.toList (PR.ok () r)=false from h4);have H5:=hid h5;have H6:=hid h6;have HS:=hid hs;have B1:=hid (show zP (⟨#[40]⟩:ByteArray).data.toList (PR.ok () r.tail)=false from h7);have B2:=hid (show zP (⟨#[91]⟩:ByteArray).data.toList (PR.ok () r.tail)=false from h8);clear h h1 h2 h3 h4 h5 h6 h7 h8 ex ey hs hn;go_enter Tryz.func119,Tryz.ntmps119
 go_wp2_with (first
  | (go_at_call 39;(with_reducible refine(zl HC.out.st false rfl).mono ?_);rintro e w1 ⟨rfl,rfl⟩)
  | (go_at_call 42;(with_reducible refine(zF HC.out.st _ N1.out).mono ?_);rintro e w1 ⟨rfl,hD⟩
     replace HC:=hid (HC.out.step hD);clear hD
     obtain⟨⟨c0,c1,c2,c3,c4⟩,fz⟩:=HC.out.own)
  | (go_at_call 42;(with_reducible refine(zF HC.out.st _ N2.out).mono ?_);rintro e w1 ⟨rfl,hD⟩
     replace HC:=hid (HC.out.step hD);clear hD
     obtain⟨⟨c0,c1,c2,c3,c4⟩,fz⟩:=HC.out.own)
  | (go_at_call 42;(with_reducible refine(zF HC.out.st _ N3.out).mono ?_);rintro e w1 ⟨rfl,hD⟩
     replace HC:=hid (HC.out.step hD);clear hD
     obtain⟨⟨c0,c1,c2,c3,c4⟩,fz⟩:=HC.out.own)
  | (go_at_call 42;(with_reducible refine(zF HC.out.st _ N4.out).mono ?_);rintro e w1 ⟨rfl,hD⟩
     replace HC:=hid (HC.out.step hD);clear hD
     obtain⟨⟨c0,c1,c2,c3,c4⟩,fz⟩:=HC.out.own))
 obtain⟨g,c,k,t,q,rfl,rfl,hk,hklt,hl,b0,b1,b2,b3,t0,t1,t2⟩:=(show zT b V all r false false w1 from HC.out.st).tok;have hklt2:(k:Int)<all.length:=by omega
 clear hk;have hk0:(t.kind == 0)=false:=by have:=H5.out;simpa[yq] using this
 go_quiet (fail)
 replace HC:=hid (HC.out.drewN nq);clear b0 b1 b2 b3 t0 t1 t2
 go_wp2_with (first
  | (go_at_call 41;(with_reducible refine(vP HC.out.st 1 (by decide) H6.out s HS.out).mono ?_);rintro e w2 ⟨rfl,hD⟩
     replace HC:=hid (HC.out.step hD)
     clear hD)
  | (go_at_call 42;(with_reducible refine(zF HC.out.st _ B1.out).mono ?_);rintro e w1 ⟨rfl,hD⟩
     replace HC:=hid (HC.out.step hD);clear hD
     obtain⟨⟨c0,c1,c2,c3,c4⟩,fz⟩:=HC.out.own)
  | (go_at_call 42;(with_reducible refine(zF HC.out.st _ B2.out).mono ?_);rintro e w1 ⟨rfl,hD⟩
     replace HC:=hid (HC.out.step hD);clear hD
     obtain⟨⟨c0,c1,c2,c3,c4⟩,fz⟩:=HC.out.own))
 obtain⟨f0,f1,f2,f3,f4⟩:=HC.out.read (.int .i64 3) (.int .i64 0) (.int .i64 0) (.string s) (.slice none 0 0);refine bodyPost_ret (v:=.agg #[.int .i64 3,.int .i64 0,.int .i64 0,.string s,.slice none 0 0]) (by simp[results,Tryz.results119,go_sem,f0,f1,f2,f3,f4]) rfl ?_;exact HC.out.fin (rfl) (yh _ _ 3 0 0 s (by constructor <;> decide))
theorem prim_call {b:Nat} {V:Value} {all r:List Tok} {w:World} {n:Nat} {d:Int} (hA:CA b V all n (d+1)) (h:zT b V all r false false w) (hd:0≤d∧d≤1000) (h1:z6 [40] r=false) (h2:z6 uF r=false) (h3:z6 yb r=false) (h4:z6 sRead r=false) (h6:yq r=1) (h7:z6 [40] r.tail=true) (hn:zG (pP (n+2) d r)):
 Calls Tryz.prog 119 #[.pointer (some ⟨b,0,none⟩),.int .i64 d] w (qG b V all w (pP (n+2) d r) (jf w.heap.size)):=by
 obtain⟨hd0,hd1⟩:=hd;have hlt:=h.lt;have HC:=hid (jT.start (x:=.ok () r) h);obtain⟨s,hs⟩:∃ s:ByteArray,s=⟨(hdT r).toArray⟩:=⟨_,rfl⟩
 have h5:yq r≠0:=by rw[h6];decide
 have ex:pP (n+2) d r=pN (n+1) d s r.tail:=by rw[pP,h1,h2,h3,h4,if_neg (by decide),if_neg (by decide),if_neg (by decide),if_neg (by decide),if_neg h5,hs];unfold qQ;rw[if_pos h6];rfl
 have ey:pN (n+1) d s r.tail=(pA n (d+1) r.tail.tail).bind fun es r=>.ok (.mk 7 0 0 s es) r:=by rw[pN,h7,if_pos rfl]
 rw[ex,ey]at hn ⊢;have HN:=hid (show zG ((PR.ok () r.tail.tail).bind fun _ r=>pA n (d+1) r) from zo hn);have HA:=hid hA;have N1:=hid (show zP (⟨#[40]⟩:ByteArray).data.toList (PR.ok () r)=false from h1);have N2:=hid (show zP (⟨#[116,114,117,101]⟩:ByteArray).data.toList (PR.ok () r)=false from h2);have N3:=hid (show zP (⟨#[102,97,108,115,101]⟩:ByteArray).data.toList (PR.ok () r)=false from h3);have N4:=hid (show zP (⟨#[114,101,97,100]⟩:ByteArray).data.toList (PR.ok () r)=false from h4);have H5:=hid h5;have H6:=hid h6;have HS:=hid hs;have Y1:=hid (show zP (⟨#[40]⟩:ByteArray).data.toList (PR.ok () r.tail)=true from h7);clear h h1 h2 h3 h4 h5 h6 h7 ex ey hs hn hA;go_enter Tryz.func119,Tryz.ntmps119
 go_wp2_with (first
  | (go_at_call 39;(with_reducible refine(zl HC.out.st false rfl).mono ?_);rintro e w1 ⟨rfl,rfl⟩)
  | (go_at_call 42;(with_reducible refine(zF HC.out.st _ N1.out).mono ?_);rintro e w1 ⟨rfl,hD⟩
     replace HC:=hid (HC.out.step hD);clear hD
     obtain⟨⟨c0,c1,c2,c3,c4⟩,fz⟩:=HC.out.own)
  | (go_at_call 42;(with_reducible refine(zF HC.out.st _ N2.out).mono ?_);rintro e w1 ⟨rfl,hD⟩
     replace HC:=hid (HC.out.step hD);clear hD
     obtain⟨⟨c0,c1,c2,c3,c4⟩,fz⟩:=HC.out.own)
  | (go_at_call 42;(with_reducible refine(zF HC.out.st _ N3.out).mono ?_);rintro e w1 ⟨rfl,hD⟩
     replace HC:=hid (HC.out.step hD);clear hD
     obtain⟨⟨c0,c1,c2,c3,c4⟩,fz⟩:=HC.out.own)
  | (go_at_call 42;(with_reducible refine(zF HC.out.st _ N4.out).mono ?_);rintro e w1 ⟨rfl,hD⟩
     replace HC:=hid (HC.out.step hD);clear hD
     obtain⟨⟨c0,c1,c2,c3,c4⟩,fz⟩:=HC.out.own))
 obtain⟨g,c,k,t,q,rfl,rfl,hk,hklt,hl,b0,b1,b2,b3,t0,t1,t2⟩:=(show zT b V all r false false w1 from HC.out.st).tok;have hklt2:(k:Int)<all.length:=by omega
 clear hk;have hk0:(t.kind == 0)=false:=by have:=H5.out;simpa[yq] using this
 go_quiet (fail)
 replace HC:=hid (HC.out.drewN nq);clear b0 b1 b2 b3 t0 t1 t2
 go_wp2_with (first
  | (go_at_call 41;(with_reducible refine(vP HC.out.st 1 (by decide) H6.out s HS.out).mono ?_);rintro e w2 ⟨rfl,hD⟩
     replace HC:=hid (HC.out.step hD)
     clear hD)
  | (go_at_call 42;(with_reducible refine(zb HC.out.st _ Y1.out).mono ?_);rintro e w3 ⟨rfl,hD⟩
     replace HC:=hid (show jT b _ all w (.ok () (t :: q).tail.tail) w3 from HC.out.step hD);clear hD
     have hz3:=HC.out.size)
  | (go_at_call 113;(with_reducible refine(HA.out.call HC.out.st HN.out).mono ?_);rintro e w4 ⟨v,rfl,hD,hG⟩
     obtain⟨k5,k6,k7,rfl⟩:=got_forms hG HN.out;have HG:=hid hG;replace HC:=hid (HC.out.step hD);clear hD hG
     obtain⟨⟨c0,c1,c2,c3,c4⟩,fz⟩:=HC.out.own))
 obtain⟨f0,f1,f2,f3,f4⟩:=HC.out.read (.int .i64 7) (.int .i64 0) (.int .i64 0) (.string s) (.slice k5 k6 k7);refine bodyPost_ret (v:=.agg #[.int .i64 7,.int .i64 0,.int .i64 0,.string s,.slice k5 k6 k7]) (by simp[results,Tryz.results119,go_sem,f0,f1,f2,f3,f4]) rfl ?_;refine HC.out.fin (by rw[qu];rfl) (qo.bind HG.out (fun a r _ ha=>?_) fun a ha=>⟨.mk 7 0 0 s a,?_⟩)
 all_goals exact⟨_,rfl,⟨by show (_:Int)≤0;decide,by show (0 :Int)≤_;decide⟩,ha.writ hz3 _ _ _ _ _⟩
theorem prim_index {b:Nat} {V:Value} {all r:List Tok} {w:World} {n:Nat} {d:Int} (hE:CE b V all n 1 (d+1)) (h:zT b V all r false false w) (hd:0≤d∧d≤1000) (h1:z6 [40] r=false) (h2:z6 uF r=false) (h3:z6 yb r=false) (h4:z6 sRead r=false) (h6:yq r=1) (h7:z6 [40] r.tail=false) (h8:z6 [91] r.tail=true) (hn:zG (pP (n+2) d r)):
 Calls Tryz.prog 119 #[.pointer (some ⟨b,0,none⟩),.int .i64 d] w (qG b V all w (pP (n+2) d r) (jf w.heap.size)):=by
 obtain⟨hd0,hd1⟩:=hd;have hlt:=h.lt;have HC:=hid (jT.start (x:=.ok () r) h);obtain⟨s,hs⟩:∃ s:ByteArray,s=⟨(hdT r).toArray⟩:=⟨_,rfl⟩
 have h5:yq r≠0:=by rw[h6];decide
 have ex:pP (n+2) d r=pN (n+1) d s r.tail:=by rw[pP,h1,h2,h3,h4,if_neg (by decide),if_neg (by decide),if_neg (by decide),if_neg (by decide),if_neg h5,hs];unfold qQ;rw[if_pos h6];rfl
 have ey:pN (n+1) d s r.tail=(pE n 1 (d+1) r.tail.tail).bind fun e r=>(zL [93] r).bind fun _ r=>.ok (.mk 6 0 0 s [e]) r:=by rw[pN,h7,h8,if_neg (by decide),if_pos rfl]
 rw[ex,ey]at hn ⊢;have HN:=hid (show zG ((PR.ok () r.tail.tail).bind fun _ r=>pE n 1 (d+1) r) from zo hn);have HE:=hid hE;have N1:=hid (show zP (⟨#[40]⟩:ByteArray).data.toList (PR.ok () r)=false from h1);have N2:=hid (show zP (⟨#[116,114,117,101]⟩:ByteArray).data.toList (PR.ok () r)=false from h2);have N3:=hid (show zP (⟨#[102,97,108,115,101]⟩:ByteArray).data.toList (PR.ok () r)=false from h3);have N4:=hid (show zP (⟨#[114,101,97,100]⟩:ByteArray).data.toList (PR.ok () r)=false from h4);have H5:=hid h5;have H6:=hid h6;have HS:=hid hs;have B1:=hid (show zP (⟨#[40]⟩:ByteArray).data.toList (PR.ok () r.tail)=false from h7);have Y1:=hid (show zP (⟨#[91]⟩:ByteArray).data.toList (PR.ok () r.tail)=true from h8);clear h h1 h2 h3 h4 h5 h6 h7 h8 ex ey hs hn hE;go_enter Tryz.func119,Tryz.ntmps119
 go_wp2_with (first
  | (go_at_call 39;(with_reducible refine(zl HC.out.st false rfl).mono ?_);rintro e w1 ⟨rfl,rfl⟩)
  | (go_at_call 42;(with_reducible refine(zF HC.out.st _ N1.out).mono ?_);rintro e w1 ⟨rfl,hD⟩
     replace HC:=hid (HC.out.step hD);clear hD
     obtain⟨⟨c0,c1,c2,c3,c4⟩,fz⟩:=HC.out.own)
  | (go_at_call 42;(with_reducible refine(zF HC.out.st _ N2.out).mono ?_);rintro e w1 ⟨rfl,hD⟩
     replace HC:=hid (HC.out.step hD);clear hD
     obtain⟨⟨c0,c1,c2,c3,c4⟩,fz⟩:=HC.out.own)
  | (go_at_call 42;(with_reducible refine(zF HC.out.st _ N3.out).mono ?_);rintro e w1 ⟨rfl,hD⟩
     replace HC:=hid (HC.out.step hD);clear hD
     obtain⟨⟨c0,c1,c2,c3,c4⟩,fz⟩:=HC.out.own)
  | (go_at_call 42;(with_reducible refine(zF HC.out.st _ N4.out).mono ?_);rintro e w1 ⟨rfl,hD⟩
     replace HC:=hid (HC.out.step hD);clear hD
     obtain⟨⟨c0,c1,c2,c3,c4⟩,fz⟩:=HC.out.own))
 obtain⟨g,c,k,t,q,rfl,rfl,hk,hklt,hl,b0,b1,b2,b3,t0,t1,t2⟩:=(show zT b V all r false false w1 from HC.out.st).tok;have hklt2:(k:Int)<all.length:=by omega
 clear hk;have hk0:(t.kind == 0)=false:=by have:=H5.out;simpa[yq] using this
 go_quiet (fail)
 replace HC:=hid (HC.out.drewN nq);clear b0 b1 b2 b3 t0 t1 t2
 go_wp2_with (first
  | (go_at_call 41;(with_reducible refine(vP HC.out.st 1 (by decide) H6.out s HS.out).mono ?_);rintro e w2 ⟨rfl,hD⟩
     replace HC:=hid (HC.out.step hD)
     clear hD)
  | (go_at_call 42;(with_reducible refine(zF HC.out.st _ B1.out).mono ?_);rintro e w3 ⟨rfl,hD⟩
     replace HC:=hid (HC.out.step hD);clear hD
     obtain⟨⟨c0,c1,c2,c3,c4⟩,fz⟩:=HC.out.own)
  | (go_at_call 42;(with_reducible refine(zb HC.out.st _ Y1.out).mono ?_);rintro e w4 ⟨rfl,hD⟩
     replace HC:=hid (show jT b _ all w (.ok () (t :: q).tail.tail) w4 from HC.out.step hD);clear hD
     have hz1:=HC.out.size)
  | (go_at_call 97;(with_reducible refine(HE.out.call HC.out.st HN.out).mono ?_);rintro e w5 ⟨v,rfl,hD,hG2⟩
     obtain⟨k1,k2,k3,k4,k5,k6,k7,rfl⟩:=qT hG2 HN.out;have HG2:=hid hG2;have hb1:=HC.out.st.lt;replace HC:=hid (HC.out.step hD);have hb2:w5.heap.size≠b:=by have:=HC.out.st.lt;omega
     clear hD hG2)
  | (go_at_call 44;(with_reducible refine(zX (HC.out.alloc _).st _).mono ?_);rintro e w6 ⟨rfl,hD⟩
     have hk:=(zD.of_below (L:=w4.heap.size) ((Below.refl _ _).alloc (Nat.le_refl _) _)).trans (zD.did hD hb1);have HK:=hid hk;obtain⟨p3,r3⟩:=off_own hD.off (k:=w5.heap.size) (by simp) hb2;replace HC:=hid ((HC.out.alloc _).step hD);have hz6:=HC.out.size;clear hD hk
     obtain⟨⟨c0,c1,c2,c3,c4⟩,fz⟩:=HC.out.own))
 obtain⟨f0,f1,f2,f3,f4⟩:=HC.out.reada (.cells #[.int .i64 k1,.int .i64 k2,.int .i64 k3,.string k4,.slice k5 k6 k7] 116) (.int .i64 6) (.int .i64 0) (.int .i64 0) (.string s) (.slice (some ⟨w6.heap.size,0,none⟩) 1 1);refine bodyPost_ret (v:=.agg #[.int .i64 6,.int .i64 0,.int .i64 0,.string s,.slice (some ⟨w6.heap.size,0,none⟩) 1 1]) (by simp[results,Tryz.results119,go_sem,f0,f1,f2,f3,f4]) rfl ?_;refine HC.out.fina ?_ ((HG2.out.imp fun a ha=>(show jf w.heap.size ((writ w6 w.heap.size _ _ _ _ _).alloc _) (.mk 6 0 0 s [a]) _ from⟨_,rfl,⟨by show (_:Int)≤0;decide,by show (0 :Int)≤_;decide⟩,yG ((jf.keep ha HK.out (Nat.le_refl _)).writ hz1 _ _ _ _ _) (Nat.le_refl _) (by rw[kM];omega) (kM _ _ _ _ _ _ _).symm⟩)).bind (fun a r _ ha=>xh ha) fun a ha=>⟨_,ha⟩);rw[qu];simp only[kE];rw[←bind_un];rfl
def xi (a:Int):Nat→List Int
 | 0=>[]
 | m+1=>a :: xi (a+1) m
theorem twos_range:twos=xi 1 19:=by decide
theorem ones_range:ones=xi 20 9:=by decide
def opIs (lev:Int) (l:List Tok) (op:Int):Bool:=decide (kT op=lev) && z6 (sgT op) l
theorem opFrom_cons (lev:Int) (l:List Tok) (a:Int) (r:List Int):xd lev l (a :: r)=if opIs lev l a=true then a else xd lev l r:=by
 rw[xd];unfold opIs;simp only[Bool.and_eq_true,decide_eq_true_eq]
theorem opFrom_hit {lev:Int} {l:List Tok} {k:Int} (hk:opIs lev l k=true):∀ (m:Nat) (a:Int),a≤k→k<a+m→(∀ j,a≤j→j<k→opIs lev l j=false)→xd lev l (xi a m)=k
 | 0,a,h1,h2,_=>by omega
 | m+1,a,h1,h2,h=>by
   rw[xi,opFrom_cons];by_cases e:a=k
   · subst e
     rw[if_pos hk]
   · rw[h a (Int.le_refl _) (by omega),if_neg (by decide)]
     exact opFrom_hit hk m (a+1) (by omega) (by omega) fun j h3=>h j (by omega)
theorem opFrom_none {lev:Int} {l:List Tok}:∀ (m:Nat) (a:Int),(∀ j,a≤j→j<a+m→opIs lev l j=false)→xd lev l (xi a m)=0
 | 0,a,_=>rfl
 | m+1,a,h=>by
   rw[xi,opFrom_cons,h a (Int.le_refl _) (by omega),if_neg (by decide)];exact opFrom_none m (a+1) fun j h3 h4=>h j (by omega) (by omega)
theorem unFrom_hit {l:List Tok} {k:Int} (hk:z6 (sgT k) l=true):∀ (m:Nat) (a:Int),a≤k→k<a+m→(∀ j,a≤j→j<k→z6 (sgT j) l=false)→yE l (xi a m)=k
 | 0,a,h1,h2,_=>by omega
 | m+1,a,h1,h2,h=>by
   rw[xi,yE];by_cases e:a=k
   · subst e
     rw[if_pos hk]
   · rw[h a (Int.le_refl _) (by omega),if_neg (by decide)]
     exact unFrom_hit hk m (a+1) (by omega) (by omega) fun j h3=>h j (by omega)
theorem unFrom_none {l:List Tok}:∀ (m:Nat) (a:Int),(∀ j,a≤j→j<a+m→z6 (sgT j) l=false)→yE l (xi a m)=0
 | 0,a,_=>rfl
 | m+1,a,h=>by
   rw[xi,yE,h a (Int.le_refl _) (by omega),if_neg (by decide)];exact unFrom_none m (a+1) fun j h3 h4=>h j (by omega) (by omega)
def opX (lev:Int) (x:PR Unit):Int:=match x with | .ok _ r=>opAt lev r | _=>0
def uI (lev:Int) (x:PR Unit) (op:Int):Bool:=decide (kT op=lev) && zP (sgT op) x
theorem opX_hit {lev k:Int} {x:PR Unit} (h1:1≤k) (h2:k≤19) (hk:uI lev x k=true) (h:∀ j,1≤j→j<k→uI lev x j=false):opX lev x=k:=by
 cases x with
 | ok a r=>
   show xd lev r twos=k;rw[twos_range];exact opFrom_hit hk 19 1 h1 (by omega) h
 | _=>simp[uI,zP]at hk
theorem opX_none {lev:Int} {x:PR Unit} (h:∀ j,1≤j→j<20→uI lev x j=false):opX lev x=0:=by
 cases x with
 | ok a r=>
   show xd lev r twos=0;rw[twos_range];exact opFrom_none 19 1 h
 | _=>rfl
theorem rlevel_is (op l:Int) (h:kT op=l) (w:World):Calls Tryz.prog 86 #[.int .i64 op] w fun e w'=>e=.returned (.int .i64 l)∧w=w':=h ▸ rlevel_any op w
theorem kN {b:Nat} {V:Value} {all:List Tok} {x:PR Unit} {w:World} (op:Int) (s:ByteArray) (h:kJ op=s) (hs:jA b V all x w):Calls Tryz.prog 118 #[.int .i64 op] w fun e w'=>e=.returned (.string s)∧qV b V all w x w':=by
 subst h;exact(rsign_any op w).mono fun _ _ ⟨he,hb⟩=>⟨he,hs.below hb,OffB.of_below hb hs.lt⟩
theorem qq {b:Nat} {V:Value} {all:List Tok} {x:PR Unit} {w:World} (h:jA b V all x w) (s:ByteArray) (v:Bool) (hv:zP s.data.toList x=v):
 Calls Tryz.prog 67 #[.pointer (some ⟨b,0,none⟩),.string s] w fun e w'=>e=.returned (.bool v)∧qV b V all w x w':=
 (is_is h s v hv).mono fun _ _ ⟨he,m,hm⟩=>⟨he,hm ▸ ⟨h.drewN m,(OffB.refl b _ w).drewN m⟩⟩
theorem op_any {b:Nat} {V:Value} {all:List Tok} {x:PR Unit} {w:World} (h:jA b V all x w) (lev:Int) (o:Int) (ho:opX lev x=o):
 Calls Tryz.prog 112 #[.pointer (some ⟨b,0,none⟩),.int .i64 lev] w fun e w'=>e=.returned (.int .i64 o)∧qV b V all w x w':=by
 have HD:=hid (show qV b V all w x w from⟨h,OffB.refl _ _ _⟩);have HO:=hid ho;clear h ho;go_enter Tryz.func112,Tryz.ntmps112;go_wp2
 go_loopw [5] (fun i wr=>∃ k:Int,i=.int .i64 k∧1≤k∧k≤20∧(∀ j,1≤j→j<k→uI lev x j=false)∧qV b V all w x wr) (fun i _=>(20-intOf i).toNat)
 case atStart=>exact⟨1,rfl,by omega,by omega,fun j h1 h2=>by omega,HD.out⟩
 case round=>
  obtain⟨k,rfl,hk1,hk2,hno,hD⟩:=hrel;have HN:=hid hno;replace HD:=hid hD;clear hno hD;by_cases hlt:k≤19
  · obtain⟨l,hl⟩:∃ l,kT k=l:=⟨_,rfl⟩
    obtain⟨s,hs⟩:∃ s,kJ k=s:=⟨_,rfl⟩
    have HL:=hid hl;have HS:=hid hs;by_cases hll:l=lev
    · subst hll
      cases hv:zP s.data.toList x with
      | true=>
        have hok:opX l x=k:=opX_hit hk1 hlt (by unfold uI sgT;rw[hs,hv,decide_eq_true hl];rfl) HN.out;have HV:=hid hv;have HK:=hid (hok.symm.trans HO.out);clear hl hs hv hok
        go_wp2_with (first
         | (go_at_call 86;(with_reducible refine(rlevel_is k l HL.out _).mono ?_);rintro e w1 ⟨rfl,rfl⟩)
         | (go_at_call 118;(with_reducible refine(kN k s HS.out HD.out.st).mono ?_);rintro e w2 ⟨rfl,hD⟩;replace HD:=hid (HD.out.after hD);clear hD)
         | (go_at_call 67;(with_reducible refine(qq HD.out.st s true HV.out).mono ?_);rintro e w3 ⟨rfl,hD⟩;replace HD:=hid (HD.out.after hD);clear hD))
        go_ret;exact⟨zk HK.out,HD.out⟩
      | false=>
        have hno2:∀ j,1≤j→j<k+1→uI l x j=false:=fun j h1 h2=>by
         by_cases e:j=k
         · subst e
           unfold uI sgT;rw[hs,hv,Bool.and_false]
         · exact HN.out j h1 (by omega)
        replace HN:=hid hno2;have HV:=hid hv;clear hl hs hv hno2
        go_wp2_with (first
         | (go_at_call 86;(with_reducible refine(rlevel_is k l HL.out _).mono ?_);rintro e w1 ⟨rfl,rfl⟩)
         | (go_at_call 118;(with_reducible refine(kN k s HS.out HD.out.st).mono ?_);rintro e w2 ⟨rfl,hD⟩;replace HD:=hid (HD.out.after hD);clear hD)
         | (go_at_call 67;(with_reducible refine(qq HD.out.st s false HV.out).mono ?_);rintro e w3 ⟨rfl,hD⟩;replace HD:=hid (HD.out.after hD);clear hD))
        go_roundw
        case rel=>exact⟨k+1,rfl,by omega,by omega,HN.out,HD.out⟩
        case measure=>simp[intOf];omega
    · have hll2:(l == lev)=false:=by simpa using hll
      have hno2:∀ j,1≤j→j<k+1→uI lev x j=false:=fun j h1 h2=>by
       by_cases e:j=k
       · subst e
         unfold uI;rw[hl,decide_eq_false hll,Bool.false_and]
       · exact HN.out j h1 (by omega)
      replace HN:=hid hno2;clear hl hs hno2 hll
      go_wp2_with (first
       | (go_at_call 86;(with_reducible refine(rlevel_is k l HL.out _).mono ?_);rintro e w1 ⟨rfl,rfl⟩))
      go_roundw
      case rel=>exact⟨k+1,rfl,by omega,by omega,HN.out,HD.out⟩
      case measure=>simp[intOf];omega
  · obtain rfl:k=20:=by omega
    go_wp2;go_ret;exact⟨zk (by rw[←HO.out,opX_none HN.out]),HD.out⟩
def CP (b:Nat) (V:Value) (all:List Tok) (n:Nat) (d:Int):Prop:=∀ (w:World) (x:PR Unit),jA b V all x w→zG (x.bind fun _ r=>pP n d r)→
 Calls Tryz.prog 119 #[.pointer (some ⟨b,0,none⟩),.int .i64 d] w (qG b V all w (x.bind fun _ r=>pP n d r) (jf w.heap.size))
theorem CP.call {b:Nat} {V:Value} {all:List Tok} {n:Nat} {d:Int} (h:CP b V all n d) {w:World} {x:PR Unit} (hs:jA b V all x w) (he:zG (x.bind fun _ r=>pP n d r)):
 Calls Tryz.prog 119 #[.pointer (some ⟨b,0,none⟩),.int .i64 d] w (qG b V all w (x.bind fun _ r=>pP n d r) (jf w.heap.size)):=h w x hs he
def CU (b:Nat) (V:Value) (all:List Tok) (n:Nat) (d:Int):Prop:=∀ (w:World) (x:PR Unit),jA b V all x w→zG (x.bind fun _ r=>pU n d r)→
 Calls Tryz.prog 111 #[.pointer (some ⟨b,0,none⟩),.int .i64 d] w (qG b V all w (x.bind fun _ r=>pU n d r) (jf w.heap.size))
theorem CU.call {b:Nat} {V:Value} {all:List Tok} {n:Nat} {d:Int} (h:CU b V all n d) {w:World} {x:PR Unit} (hs:jA b V all x w) (he:zG (x.bind fun _ r=>pU n d r)):
 Calls Tryz.prog 111 #[.pointer (some ⟨b,0,none⟩),.int .i64 d] w (qG b V all w (x.bind fun _ r=>pU n d r) (jf w.heap.size)):=h w x hs he
theorem isAt_over {x:PR Unit} (ho:zg x=true) (s:List UInt8):zP s x=false:=by
 cases x with
 | ok u r=>cases ho
 | _=>rfl
theorem ur {α:Type} {b:Nat} {V:Value} {all:List Tok} {w W:World} {x:PR Unit} (ho:zg x=true) {f:List Tok→PR α} {F:World→α→Value→Prop} {v:Value} (hD:qV b V all w x W) (a:α) (ha:F W a v):qG b V all w (x.bind fun _ r=>f r) F (.returned v) W:=by
 cases x with
 | ok u r=>cases ho
 | bad r=>exact⟨v,rfl,hD,a,ha⟩
 | deep r=>exact⟨v,rfl,hD,a,ha⟩
 | out=>exact absurd hD.st id
theorem prim_any {b:Nat} {V:Value} {all:List Tok} {n:Nat} {d:Int} (hE:∀ m,m≤n→CE b V all m 1 (d+1)) (hA:∀ m,m≤n→CA b V all m (d+1)) (hd:0≤d∧d≤1000):CP b V all (n+1) d:=by
 intro w x h hn;cases ho:zg x with
 | true=>exact(yV h ho d).mono fun e w' ⟨he,hD⟩=>he ▸ ur ho hD ex0 (uQ _ _)
 | false=>
   cases x with
   | ok u r=>
     have hp:zT b V all r false false w:=h;have hn':zG (pP (n+1) d r):=hn;show Calls _ _ _ _ (qG b V all w (pP (n+1) d r) _);cases h1:z6 [40] r with
     | true=>exact prim_paren (hE n (Nat.le_refl _)) hp hd h1 hn'
     | false=>
       cases h2:z6 uF r with
       | true=>exact prim_true hp hd h1 h2
       | false=>
         cases h3:z6 yb r with
         | true=>exact prim_false hp hd h1 h2 h3
         | false=>
           cases h4:z6 sRead r with
           | true=>exact prim_read hp hd h1 h2 h3 h4
           | false=>
             by_cases h5:yq r=0
             · exact prim_num hp hd h1 h2 h3 h4 h5
             · by_cases h6:yq r=1
               · cases h7:z6 [40] r.tail with
                 | true=>
                   cases n with
                   | zero=>
                     rw[pP,h1,h2,h3,h4,if_neg (by decide),if_neg (by decide),if_neg (by decide),if_neg (by decide),if_neg h5]at hn';unfold qQ at hn';rw[if_pos h6]at hn';simp only[PR.bind]at hn';rw[pN]at hn';exact absurd hn' id
                   | succ n=>exact prim_call (hA n (by omega)) hp hd h1 h2 h3 h4 h6 h7 hn'
                 | false=>
                   cases h8:z6 [91] r.tail with
                   | true=>
                     cases n with
                     | zero=>
                       rw[pP,h1,h2,h3,h4,if_neg (by decide),if_neg (by decide),if_neg (by decide),if_neg (by decide),if_neg h5]at hn';unfold qQ at hn';rw[if_pos h6]at hn';simp only[PR.bind]at hn';rw[pN]at hn';exact absurd hn' id
                     | succ n=>exact prim_index (hE n (by omega)) hp hd h1 h2 h3 h4 h6 h7 h8 hn'
                   | false=>exact prim_name hp hd h1 h2 h3 h4 h6 h7 h8 hn'
               · exact prim_bad hp hd h1 h2 h3 h4 h5 h6
   | bad r=>cases ho
   | deep r=>cases ho
   | out=>exact absurd h id
theorem zT.deepen {b:Nat} {V:Value} {all r:List Tok} {dp:Bool} {w:World} (h:zT b V all r false dp w):zT b V all r false true (w.setCell ⟨b,3,none⟩ (.bool true)):=
 ⟨h.1.set 3 (.bool true),h.2.1.off ((OffB.refl b _ w).setb h.lt 3 _),h.2.2⟩
theorem unary_none {b:Nat} {V:Value} {all:List Tok} {x:PR Unit} {w:World} {d:Int} (h:jA b V all x w) (hd:0≤d∧d≤1000) (ho:zg x=true) (hd2:d≤100):
 Calls Tryz.prog 111 #[.pointer (some ⟨b,0,none⟩),.int .i64 d] w fun e w'=>e=.returned ex0V∧qV b V all w x w':=by
 have HC:=hid (jT.start h);have HO:=hid ho;have hdd:¬ 100<d:=by omega
 clear h ho;go_enter Tryz.func111,Tryz.ntmps111;go_wp2
 go_loopw [5] (fun i wr=>∃ k:Int,i=.int .i64 k∧20≤k∧k≤29∧jT b V all w x wr) (fun i _=>(29-intOf i).toNat)
 case atStart=>exact⟨20,rfl,by omega,by omega,HC.out⟩
 case round=>
  obtain⟨k,rfl,hk1,hk2,hC⟩:=hrel;replace HC:=hid hC;clear hC;by_cases hlt:k≤28
  · obtain⟨s,hs⟩:∃ s,kJ k=s:=⟨_,rfl⟩
    have HS:=hid hs;have HV:=hid (isAt_over HO.out s.data.toList);clear hs
    go_wp2_with (first
     | (go_at_call 118;(with_reducible refine(kN k s HS.out HC.out.st).mono ?_);rintro e w2 ⟨rfl,hD⟩;replace HC:=hid (HC.out.step hD);clear hD)
     | (go_at_call 42;(with_reducible refine(zF HC.out.st s HV.out).mono ?_);rintro e w3 ⟨rfl,hD⟩;replace HC:=hid (HC.out.step hD);clear hD))
    go_roundw
    case rel=>exact⟨k+1,rfl,by omega,by omega,HC.out⟩
    case measure=>simp[intOf];omega
  · obtain rfl:k=29:=by omega
    go_wp2_with (go_at_call 119;(with_reducible refine(yV HC.out.st HO.out d).mono ?_);rintro e w2 ⟨rfl,hD⟩;replace HC:=hid (HC.out.step hD);clear hD;obtain⟨⟨c0,c1,c2,c3,c4⟩,fz⟩:=HC.out.own);obtain⟨f0,f1,f2,f3,f4⟩:=HC.out.read (.int .i64 0) (.int .i64 0) (.int .i64 0) (.string ⟨#[]⟩) (.slice none 0 0);refine bodyPost_ret (v:=ex0V) (by simp[results,Tryz.results111,go_sem,f0,f1,f2,f3,f4]) rfl ?_;exact⟨rfl,HC.out.did.writ HC.out.2.2.1 (Nat.le_refl _) HC.out.ne _ _ _ _ _⟩
theorem unary_bad {b:Nat} {V:Value} {all r:List Tok} {x:PR Unit} {w:World} {d:Int} (hx:x=.bad r) (h:jA b V all x w) (hd:0≤d∧d≤1000) (ho:zg x=true) (hd2:100<d):
 Calls Tryz.prog 111 #[.pointer (some ⟨b,0,none⟩),.int .i64 d] w fun e w'=>e=.returned ex0V∧qV b V all w x w':=by
 have HC:=hid (jT.start h);have HO:=hid ho
 have b2:w.cell? ⟨b,2,none⟩=some (.bool true):=by
  rw[hx]at h;exact(zT.cells (show zT b V all r true false w from h)).2.2.1
 have hlt:=h.lt;clear h ho hx;go_enter Tryz.func111,Tryz.ntmps111;go_wp2
 go_loopw [5] (fun i wr=>∃ k:Int,i=.int .i64 k∧20≤k∧k≤29∧jT b V all w x wr) (fun i _=>(29-intOf i).toNat)
 case atStart=>exact⟨20,rfl,by omega,by omega,HC.out⟩
 case round=>
  obtain⟨k,rfl,hk1,hk2,hC⟩:=hrel;replace HC:=hid hC;clear hC;by_cases hlt:k≤28
  · obtain⟨s,hs⟩:∃ s,kJ k=s:=⟨_,rfl⟩
    have HS:=hid hs;have HV:=hid (isAt_over HO.out s.data.toList);clear hs
    go_wp2_with (first
     | (go_at_call 118;(with_reducible refine(kN k s HS.out HC.out.st).mono ?_);rintro e w2 ⟨rfl,hD⟩;replace HC:=hid (HC.out.step hD);clear hD)
     | (go_at_call 42;(with_reducible refine(zF HC.out.st s HV.out).mono ?_);rintro e w3 ⟨rfl,hD⟩;replace HC:=hid (HC.out.step hD);clear hD))
    go_roundw
    case rel=>exact⟨k+1,rfl,by omega,by omega,HC.out⟩
    case measure=>simp[intOf];omega
  · obtain rfl:k=29:=by omega
    go_wp2_with (go_at_call 119;(with_reducible refine(yV HC.out.st HO.out d).mono ?_);rintro e w2 ⟨rfl,hD⟩;replace HC:=hid (HC.out.step hD);clear hD;obtain⟨⟨c0,c1,c2,c3,c4⟩,fz⟩:=HC.out.own);obtain⟨f0,f1,f2,f3,f4⟩:=HC.out.read (.int .i64 0) (.int .i64 0) (.int .i64 0) (.string ⟨#[]⟩) (.slice none 0 0);refine bodyPost_ret (v:=ex0V) (by simp[results,Tryz.results111,go_sem,f0,f1,f2,f3,f4]) rfl ?_;exact⟨rfl,HC.out.did.writ HC.out.2.2.1 (Nat.le_refl _) HC.out.ne _ _ _ _ _⟩
theorem jT.deepen {b:Nat} {V:Value} {all r:List Tok} {dp:Bool} {w:World} (h:zT b V all r false dp w):jT b V all w (.deep r) ((w.alloc xL).setCell ⟨b,3,none⟩ (.bool true))∧jT b V all w (.deep r) ((w.setCell ⟨b,3,none⟩ (.bool true)).alloc xL):=by
 have hst:∃ x,jA b V all x w∧zT b V all r false dp w:=by
  cases dp with
  | false=>exact⟨.ok () r,h,h⟩
  | true=>exact⟨.deep r,h,h⟩
 obtain⟨x,hx,_⟩:=hst;have h1:=jT.start hx;have hp:zT b V all r false dp (w.alloc xL):=h.off ((Below.refl _ _).alloc (Nat.le_refl _) _);refine⟨h1.step ⟨hp.deepen,(OffB.refl b _ _).setb hp.lt 3 _⟩,?_⟩;have hd:qV b V all w (.deep r) (w.setCell ⟨b,3,none⟩ (.bool true)):=⟨h.deepen,(OffB.refl b _ _).setb h.lt 3 _⟩
 refine⟨hd.alloc _,?_,h.2.1,h.lt⟩;have:=heap_alloc_new (w.setCell ⟨b,3,none⟩ (.bool true)) xL;rw[jW]at this;exact this
theorem uS {b:Nat} {V:Value} {all r:List Tok} {dp:Bool} {w:World} {d:Int} (h:zT b V all r false dp w) (hd:0≤d∧d≤1000) (hd2:100<d):
 Calls Tryz.prog 111 #[.pointer (some ⟨b,0,none⟩),.int .i64 d] w fun e w'=>e=.returned ex0V∧qV b V all w (.deep r) w':=by
 have HC0:=hid (jT.deepen h);obtain⟨_,_,b2,b3⟩:=h.cells;have f3:=h.1.frozen 3;have hlt:=h.lt;obtain⟨x,hx⟩:∃ x:PR Unit,x=.deep r:=⟨_,rfl⟩
 have HX:=hid hx;have HO:=hid (show zg x=true by rw[hx];rfl);rw[←hx];rw[←hx]at HC0;clear h hx;go_enter Tryz.func111,Tryz.ntmps111;go_wp2;clear b2 b3 f3
 go_loopw [5] (fun i wr=>∃ k:Int,i=.int .i64 k∧20≤k∧k≤29∧jT b V all w x wr) (fun i _=>(29-intOf i).toNat)
 case atStart=>exact⟨20,rfl,by omega,by omega,by first | exact HC0.out.1 | exact HC0.out.2⟩
 case round=>
  obtain⟨k,rfl,hk1,hk2,hC⟩:=hrel;have HC:=hid hC;clear hC;by_cases hlt:k≤28
  · obtain⟨s,hs⟩:∃ s,kJ k=s:=⟨_,rfl⟩
    have HS:=hid hs;have HV:=hid (isAt_over HO.out s.data.toList);clear hs
    go_wp2_with (first
     | (go_at_call 118;(with_reducible refine(kN k s HS.out HC.out.st).mono ?_);rintro e w2 ⟨rfl,hD⟩;replace HC:=hid (HC.out.step hD);clear hD)
     | (go_at_call 42;(with_reducible refine(zF HC.out.st s HV.out).mono ?_);rintro e w3 ⟨rfl,hD⟩;replace HC:=hid (HC.out.step hD);clear hD))
    go_roundw
    case rel=>exact⟨k+1,rfl,by omega,by omega,HC.out⟩
    case measure=>simp[intOf];omega
  · obtain rfl:k=29:=by omega
    go_wp2_with (go_at_call 119;(with_reducible refine(yV HC.out.st HO.out d).mono ?_);rintro e w2 ⟨rfl,hD⟩;replace HC:=hid (HC.out.step hD);clear hD;obtain⟨⟨c0,c1,c2,c3,c4⟩,fz⟩:=HC.out.own);obtain⟨f0,f1,f2,f3,f4⟩:=HC.out.read (.int .i64 0) (.int .i64 0) (.int .i64 0) (.string ⟨#[]⟩) (.slice none 0 0);refine bodyPost_ret (v:=ex0V) (by simp[results,Tryz.results111,go_sem,f0,f1,f2,f3,f4]) rfl ?_;exact⟨rfl,HC.out.did.writ HC.out.2.2.1 (Nat.le_refl _) HC.out.ne _ _ _ _ _⟩
end Go.Proofs.YtfghofifjnbicaaGreatDoor
