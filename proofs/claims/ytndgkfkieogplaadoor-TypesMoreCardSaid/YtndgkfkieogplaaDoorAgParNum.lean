import Derived.Test.YtndgkfkieogplaaDoorAgTokRefA
import Derived.Test.YtndgkfkieogplaaDoorAgTokScan
import Derived.Deep.QuietTactic
import Derived.BigQuiet
set_option linter.unusedSimpArgs false
set_option linter.unusedVariables false
set_option maxRecDepth 100000
/- The document's Value of a number that may be. -/
namespace Go.Proofs.YtndgkfkieogplaaDoor
open Lib (hid)
open Go.RowKit
theorem numB_parts {l:List UInt8} (h:kO l=true):l≠[]∧l.all jG=true∧jH 0 l<9223372036854775808:=by
 simp only[kO,Bool.and_eq_true,decide_eq_true_eq]at h
 refine⟨fun e=>?_,h.1.1.2,h.2⟩
 rw[e]at h
 simp at h
theorem rvalue_num (s:ByteArray) (w:World) (hs:s.size≤281474976710656) (hn:kO s.data.toList=true):
 Calls Tryd.prog 44 #[.string s] w fun e w'=>e=.returned (.int .i64 (jH 0 s.data.toList:Nat))∧w=w':=by
 obtain⟨hne,hd,hbg⟩:=numB_parts hn
 have hp:0<s.size:=by rw[Lib.size_eq];exact List.length_pos_iff.2 hne
 have he:s.toList.isEmpty=false:=by rw[Lib.toList_data];simpa using hne
 have HD:=hid hd
 have HNB:=hid hn
 have HB:=hid hbg
 clear hne hd hn hbg
 go_enter Tryd.func44,Tryd.ntmps44
 go_wp2
 go_loop [3,4,5] (fun n i _=>∃ (k m:Nat),k≤s.size∧i=.int .i64 k∧n=.int .i64 m∧m=jH 0 (s.data.toList.take k)∧m<9223372036854775808) (fun _ i _=>s.size-(intOf i).toNat)
 case atStart=>exact⟨0,0,Nat.zero_le _,rfl,rfl,by rw[List.take_zero,vY],by omega⟩
 case round=>
  obtain⟨k,m,hk,rfl,rfl,hm,hbig⟩:=hrel
  have HM:=hid hm
  clear hm
  by_cases hlt:k<s.size
  · obtain⟨c,hc⟩:∃ c:Int,(s[k].toNat:Int)=c:=⟨_,rfl⟩
    have hix:=uL s k hlt c hc
    have HC:=hid hc
    have hdk:=dig_at hlt HD.out
    have h48:48≤c:=by omega
    have h57:c≤57:=by omega
    clear hc hdk
    have hov:¬ (9223372036854775807-(c-48)) / 10<(m:Int):=fun hov=>by
     have:=numB_over s k m hlt HM.out c HC.out h48 hov
     rw[HNB.out]at this
     cases this
    go_wp2
    have HC2:=HC.out
    have hmc:((m * 10+(s[k].toNat-48):Nat):Int)=(m:Int) * 10+(c-48):=by omega
    have hle:=decV_take_le s.data.toList (k+1)
    rw[take_next hlt,vZ,←HM.out]at hle
    have hb2:=HB.out
    go_round
    case rel=>exact⟨k+1,m * 10+(s[k].toNat-48),by omega,by go_num,by rw[hmc],by rw[take_next hlt,vZ,←HM.out],by omega⟩
    case measure=>simp[intOf];omega
  · have e:k=s.size:=by omega
    subst e
    have HM2:Hid (m=jH 0 s.data.toList):=by
     unfold Hid
     rw[HM.out,List.take_of_length_le (by rw[←Lib.size_eq];exact Nat.le_refl _)]
    obtain⟨c,hc⟩:∃ c:Int,(s[0].toNat:Int)=c:=⟨_,rfl⟩
    have hix:=byte_index0 s hp c hc
    have hN:(decide (s.size=1) || decide (c≠48))=true:=by
     rw[←HNB.out,numB_one s hp HD.out HB.out]
     congr 1
     rw[Bool.eq_iff_iff]
     simp
     omega
    have HN:=hid hN
    clear hc hN
    by_cases h1:1<s.size
    · have h2:c≠48:=by
       have:=HN.out
       rw[decide_eq_false (show ¬ s.size=1 by omega),Bool.false_or]at this
       exact of_decide_eq_true this
      go_wp2
      go_ret
      exact⟨congrArg (fun n:Nat=>Ending.returned (.int .i64 (n:Int))) HM2.out,rfl⟩
    · go_wp2
      go_ret
      exact⟨congrArg (fun n:Nat=>Ending.returned (.int .i64 (n:Int))) HM2.out,rfl⟩
theorem vx {b:Nat} {V:Value} {all:List Tok} {x:PR Unit} {w:World} (h:jS b V all x w) (ho:zm x=true) (d:Int):
 Calls Tryd.prog 91 #[.pointer (some ⟨b,0,none⟩),.int .i64 d] w fun e w'=>e=.returned ex0V∧q7 b V all w x w':=by
 have HC:=hid (jm.start h)
 have HO:=hid ho
 clear h ho
 go_enter Tryd.func91,Tryd.ntmps91
 go_wp2_with (go_at_call 40;(with_reducible refine(zu HC.out.st true HO.out).mono ?_);rintro e w1 ⟨rfl,rfl⟩)
 exact bodyPost_ret (v:=ex0V) (by simp[results,Tryd.results91,go_sem,ex0V]) rfl ⟨rfl,HC.out.did⟩
theorem prim_true {b:Nat} {V:Value} {all r:List Tok} {w:World} {n:Nat} {d:Int} (h:zY b V all r false false w) (hd:0≤d∧d≤1000) (h1:z9 [40] r=false) (h2:z9 uo r=true):
 Calls Tryd.prog 91 #[.pointer (some ⟨b,0,none⟩),.int .i64 d] w (qM b V all w (pP (n+1) d r) (kN w.heap.size)):=by
 obtain⟨hd0,hd1⟩:=hd
 have hlt:=h.lt
 have HC:=hid (jm.start (x:=.ok () r) h)
 have ex:pP (n+1) d r=.ok (.mk 2 0 1 bE []) r.tail:=by rw[pP,h1,h2,if_neg (by decide),if_pos rfl]
 rw[ex]
 have N1:=hid (show zS (⟨#[40]⟩:ByteArray).data.toList (PR.ok () r)=false from h1)
 have Y1:=hid (show zS (⟨#[116,114,117,101]⟩:ByteArray).data.toList (PR.ok () r)=true from h2)
 clear h h1 h2 ex
 go_enter Tryd.func91,Tryd.ntmps91
 go_wp2_with (first
  | (go_at_call 40;(with_reducible refine(zu HC.out.st false rfl).mono ?_);rintro e w1 ⟨rfl,rfl⟩)
  | (go_at_call 43;(with_reducible refine(zF HC.out.st _ N1.out).mono ?_);rintro e w1 ⟨rfl,hD⟩
     replace HC:=hid (HC.out.step hD)
     clear hD
     obtain⟨⟨c0,c1,c2,c3,c4⟩,fz⟩:=HC.out.own)
  | (go_at_call 43;(with_reducible refine(zl HC.out.st _ Y1.out).mono ?_);rintro e w1 ⟨rfl,hD⟩
     replace HC:=hid (show jm b _ all w (.ok () r.tail) w1 from HC.out.step hD)
     clear hD
     obtain⟨⟨c0,c1,c2,c3,c4⟩,fz⟩:=HC.out.own))
 obtain⟨f0,f1,f2,f3,f4⟩:=HC.out.read (.int .i64 2) (.int .i64 0) (.int .i64 1) (.string ⟨#[]⟩) (.slice none 0 0)
 refine bodyPost_ret (v:=.agg #[.int .i64 2,.int .i64 0,.int .i64 1,.string ⟨#[]⟩,.slice none 0 0]) (by simp[results,Tryd.results91,go_sem,f0,f1,f2,f3,f4]) rfl ?_
 exact HC.out.fin (rfl) (uQ _ _ 2 0 1 bE (by constructor <;> decide))
theorem prim_false {b:Nat} {V:Value} {all r:List Tok} {w:World} {n:Nat} {d:Int} (h:zY b V all r false false w) (hd:0≤d∧d≤1000) (h1:z9 [40] r=false) (h2:z9 uo r=false) (h3:z9 vQ r=true):
 Calls Tryd.prog 91 #[.pointer (some ⟨b,0,none⟩),.int .i64 d] w (qM b V all w (pP (n+1) d r) (kN w.heap.size)):=by
 obtain⟨hd0,hd1⟩:=hd
 have hlt:=h.lt
 have HC:=hid (jm.start (x:=.ok () r) h)
 have ex:pP (n+1) d r=.ok (.mk 2 0 0 bE []) r.tail:=by rw[pP,h1,h2,h3,if_neg (by decide),if_neg (by decide),if_pos rfl]
 rw[ex]
 have N1:=hid (show zS (⟨#[40]⟩:ByteArray).data.toList (PR.ok () r)=false from h1)
 have N2:=hid (show zS (⟨#[116,114,117,101]⟩:ByteArray).data.toList (PR.ok () r)=false from h2)
 have Y1:=hid (show zS (⟨#[102,97,108,115,101]⟩:ByteArray).data.toList (PR.ok () r)=true from h3)
 clear h h1 h2 h3 ex
 go_enter Tryd.func91,Tryd.ntmps91
 go_wp2_with (first
  | (go_at_call 40;(with_reducible refine(zu HC.out.st false rfl).mono ?_);rintro e w1 ⟨rfl,rfl⟩)
  | (go_at_call 43;(with_reducible refine(zF HC.out.st _ N1.out).mono ?_);rintro e w1 ⟨rfl,hD⟩
     replace HC:=hid (HC.out.step hD)
     clear hD
     obtain⟨⟨c0,c1,c2,c3,c4⟩,fz⟩:=HC.out.own)
  | (go_at_call 43;(with_reducible refine(zF HC.out.st _ N2.out).mono ?_);rintro e w1 ⟨rfl,hD⟩
     replace HC:=hid (HC.out.step hD)
     clear hD
     obtain⟨⟨c0,c1,c2,c3,c4⟩,fz⟩:=HC.out.own)
  | (go_at_call 43;(with_reducible refine(zl HC.out.st _ Y1.out).mono ?_);rintro e w1 ⟨rfl,hD⟩
     replace HC:=hid (show jm b _ all w (.ok () r.tail) w1 from HC.out.step hD)
     clear hD
     obtain⟨⟨c0,c1,c2,c3,c4⟩,fz⟩:=HC.out.own))
 obtain⟨f0,f1,f2,f3,f4⟩:=HC.out.read (.int .i64 2) (.int .i64 0) (.int .i64 0) (.string ⟨#[]⟩) (.slice none 0 0)
 refine bodyPost_ret (v:=.agg #[.int .i64 2,.int .i64 0,.int .i64 0,.string ⟨#[]⟩,.slice none 0 0]) (by simp[results,Tryd.results91,go_sem,f0,f1,f2,f3,f4]) rfl ?_
 exact HC.out.fin (rfl) (uQ _ _ 2 0 0 bE (by constructor <;> decide))
theorem prim_read {b:Nat} {V:Value} {all r:List Tok} {w:World} {n:Nat} {d:Int} (h:zY b V all r false false w) (hd:0≤d∧d≤1000) (h1:z9 [40] r=false) (h2:z9 uo r=false) (h3:z9 vQ r=false) (h4:z9 uZ r=true):
 Calls Tryd.prog 91 #[.pointer (some ⟨b,0,none⟩),.int .i64 d] w (qM b V all w (pP (n+1) d r) (kN w.heap.size)):=by
 obtain⟨hd0,hd1⟩:=hd
 have hlt:=h.lt
 have HC:=hid (jm.start (x:=.ok () r) h)
 have ex:pP (n+1) d r=(zI [40] r.tail).bind fun _ r=>(zI [41] r).bind fun _ r=>.ok (.mk 8 0 0 bE []) r:=by rw[pP,h1,h2,h3,h4,if_neg (by decide),if_neg (by decide),if_neg (by decide),if_pos rfl]
 rw[ex]
 have N1:=hid (show zS (⟨#[40]⟩:ByteArray).data.toList (PR.ok () r)=false from h1)
 have N2:=hid (show zS (⟨#[116,114,117,101]⟩:ByteArray).data.toList (PR.ok () r)=false from h2)
 have N3:=hid (show zS (⟨#[102,97,108,115,101]⟩:ByteArray).data.toList (PR.ok () r)=false from h3)
 have Y1:=hid (show zS (⟨#[114,101,97,100]⟩:ByteArray).data.toList (PR.ok () r)=true from h4)
 clear h h1 h2 h3 h4 ex
 go_enter Tryd.func91,Tryd.ntmps91
 go_wp2_with (first
  | (go_at_call 40;(with_reducible refine(zu HC.out.st false rfl).mono ?_);rintro e w1 ⟨rfl,rfl⟩)
  | (go_at_call 43;(with_reducible refine(zF HC.out.st _ N1.out).mono ?_);rintro e w1 ⟨rfl,hD⟩
     replace HC:=hid (HC.out.step hD)
     clear hD
     obtain⟨⟨c0,c1,c2,c3,c4⟩,fz⟩:=HC.out.own)
  | (go_at_call 43;(with_reducible refine(zF HC.out.st _ N2.out).mono ?_);rintro e w1 ⟨rfl,hD⟩
     replace HC:=hid (HC.out.step hD)
     clear hD
     obtain⟨⟨c0,c1,c2,c3,c4⟩,fz⟩:=HC.out.own)
  | (go_at_call 43;(with_reducible refine(zF HC.out.st _ N3.out).mono ?_);rintro e w1 ⟨rfl,hD⟩
     replace HC:=hid (HC.out.step hD)
     clear hD
     obtain⟨⟨c0,c1,c2,c3,c4⟩,fz⟩:=HC.out.own)
  | (go_at_call 43;(with_reducible refine(zl HC.out.st _ Y1.out).mono ?_);rintro e w1 ⟨rfl,hD⟩
     replace HC:=hid (show jm b _ all w (.ok () r.tail) w1 from HC.out.step hD)
     clear hD
     obtain⟨⟨c0,c1,c2,c3,c4⟩,fz⟩:=HC.out.own)
  | (go_at_call 45;(with_reducible refine(zb HC.out.st ⟨#[40]⟩).mono ?_);rintro e w1 ⟨rfl,hD⟩
     replace HC:=hid (show jm b _ all w (zI [40] r.tail) w1 from HC.out.step hD)
     clear hD)
  | (go_at_call 45;(with_reducible refine(zb HC.out.st ⟨#[41]⟩).mono ?_);rintro e w1 ⟨rfl,hD⟩
     replace HC:=hid (show jm b _ all w ((zI [40] r.tail).bind fun _ r=>zI [41] r) w1 from HC.out.step hD)
     clear hD
     obtain⟨⟨c0,c1,c2,c3,c4⟩,fz⟩:=HC.out.own))
 obtain⟨f0,f1,f2,f3,f4⟩:=HC.out.read (.int .i64 8) (.int .i64 0) (.int .i64 0) (.string ⟨#[]⟩) (.slice none 0 0)
 refine bodyPost_ret (v:=.agg #[.int .i64 8,.int .i64 0,.int .i64 0,.string ⟨#[]⟩,.slice none 0 0]) (by simp[results,Tryd.results91,go_sem,f0,f1,f2,f3,f4]) rfl ?_
 exact HC.out.fin (by rw[jP];simp only[xD]) (jE.bind (P:=fun _=>True) (by unfold zI;split;trivial;exact⟨(),trivial⟩) (fun _ r _ _=>yn (uQ _ _ 8 0 0 bE (by constructor <;> decide))) (fun _ _=>⟨_,uQ _ _ 8 0 0 bE (by constructor <;> decide)⟩))
theorem prim_paren {b:Nat} {V:Value} {all r:List Tok} {w:World} {n:Nat} {d:Int} (hE:CE b V all n 1 (d+1)) (h:zY b V all r false false w) (hd:0≤d∧d≤1000) (h1:z9 [40] r=true) (hn:zG (pP (n+1) d r)):
 Calls Tryd.prog 91 #[.pointer (some ⟨b,0,none⟩),.int .i64 d] w (qM b V all w (pP (n+1) d r) (kN w.heap.size)):=by
 obtain⟨hd0,hd1⟩:=hd
 have hlt:=h.lt
 have HC:=hid (jm.start (x:=.ok () r) h)
 rw[pP,if_pos h1]at hn ⊢
 have Y1:=hid (show zS (⟨#[40]⟩:ByteArray).data.toList (PR.ok () r)=true from h1)
 have HN:=hid (show zG ((PR.ok () r.tail).bind fun _ r=>pE n 1 (d+1) r) from zv hn)
 have HE:=hid hE
 clear h h1 hn hE
 go_enter Tryd.func91,Tryd.ntmps91
 go_wp2_with (first
  | (go_at_call 40;(with_reducible refine(zu HC.out.st false rfl).mono ?_);rintro e w1 ⟨rfl,rfl⟩)
  | (go_at_call 43;(with_reducible refine(zl HC.out.st _ Y1.out).mono ?_);rintro e w1 ⟨rfl,hD⟩
     replace HC:=hid (show jm b _ all w (.ok () r.tail) w1 from HC.out.step hD)
     clear hD
     have hz1:=HC.out.size)
  | (go_at_call 81;(with_reducible refine(HE.out.call HC.out.st HN.out).mono ?_);rintro e w2 ⟨v,rfl,hD,hG2⟩
     obtain⟨k1,k2,k3,k4,k5,k6,k7,rfl⟩:=q6 hG2 HN.out
     have HG2:=hid hG2
     have hb1:=HC.out.st.lt
     replace HC:=hid (HC.out.step hD)
     have hb2:w2.heap.size≠b:=by have:=HC.out.st.lt;omega
     clear hD hG2)
  | (go_at_call 45;(with_reducible refine(zb (HC.out.alloc _).st _).mono ?_);rintro e w3 ⟨rfl,hD⟩
     have hk:=(zM.of_below (L:=w1.heap.size) ((Below.refl _ _).alloc (Nat.le_refl _) _)).trans (zM.did hD hb1)
     have HK:=hid hk
     obtain⟨p3,r3⟩:=off_own hD.off (k:=w2.heap.size) (by simp) hb2
     replace HC:=hid ((HC.out.alloc _).step hD)
     clear hD hk
     obtain⟨⟨c0,c1,c2,c3,c4⟩,fz⟩:=HC.out.own))
 obtain⟨f0,f1,f2,f3,f4⟩:=HC.out.read (.int .i64 k1) (.int .i64 k2) (.int .i64 k3) (.string k4) (.slice k5 k6 k7)
 refine bodyPost_ret (v:=.agg #[.int .i64 k1,.int .i64 k2,.int .i64 k3,.string k4,.slice k5 k6 k7]) (by simp[results,Tryd.results91,go_sem,f0,f1,f2,f3,f4]) rfl ?_
 refine HC.out.fin ?_ ((HG2.out.imp fun a ha=>(kN.keep ha HK.out (Nat.le_refl _)).writ hz1 _ _ _ _ _).bind (fun a r _ ha=>yn ha) fun a ha=>⟨a,ha⟩)
 rw[jP]
 simp only[xD]
 rw[←bind_un]
 rfl
theorem prim_num {b:Nat} {V:Value} {all r:List Tok} {w:World} {n:Nat} {d:Int} (h:zY b V all r false false w) (hd:0≤d∧d≤1000) (h1:z9 [40] r=false) (h2:z9 uo r=false) (h3:z9 vQ r=false) (h4:z9 uZ r=false) (h5:yQ r=0):
 Calls Tryd.prog 91 #[.pointer (some ⟨b,0,none⟩),.int .i64 d] w (qM b V all w (pP (n+1) d r) (kN w.heap.size)):=by
 obtain⟨hd0,hd1⟩:=hd
 have hlt:=h.lt
 have HC:=hid (jm.start (x:=.ok () r) h)
 have hnum:=h.num h5
 have ex:pP (n+1) d r=.ok (.mk 1 0 (jH 0 (hdT r)) bE []) r.tail:=by rw[pP,h1,h2,h3,h4,if_neg (by decide),if_neg (by decide),if_neg (by decide),if_neg (by decide),if_pos h5]
 rw[ex]
 have N1:=hid (show zS (⟨#[40]⟩:ByteArray).data.toList (PR.ok () r)=false from h1)
 have N2:=hid (show zS (⟨#[116,114,117,101]⟩:ByteArray).data.toList (PR.ok () r)=false from h2)
 have N3:=hid (show zS (⟨#[102,97,108,115,101]⟩:ByteArray).data.toList (PR.ok () r)=false from h3)
 have N4:=hid (show zS (⟨#[114,101,97,100]⟩:ByteArray).data.toList (PR.ok () r)=false from h4)
 have H5:=hid h5
 have HNU:=hid hnum
 clear h h1 h2 h3 h4 h5 ex hnum
 go_enter Tryd.func91,Tryd.ntmps91
 go_wp2_with (first
  | (go_at_call 40;(with_reducible refine(zu HC.out.st false rfl).mono ?_);rintro e w1 ⟨rfl,rfl⟩)
  | (go_at_call 43;(with_reducible refine(zF HC.out.st _ N1.out).mono ?_);rintro e w1 ⟨rfl,hD⟩
     replace HC:=hid (HC.out.step hD)
     clear hD
     obtain⟨⟨c0,c1,c2,c3,c4⟩,fz⟩:=HC.out.own)
  | (go_at_call 43;(with_reducible refine(zF HC.out.st _ N2.out).mono ?_);rintro e w1 ⟨rfl,hD⟩
     replace HC:=hid (HC.out.step hD)
     clear hD
     obtain⟨⟨c0,c1,c2,c3,c4⟩,fz⟩:=HC.out.own)
  | (go_at_call 43;(with_reducible refine(zF HC.out.st _ N3.out).mono ?_);rintro e w1 ⟨rfl,hD⟩
     replace HC:=hid (HC.out.step hD)
     clear hD
     obtain⟨⟨c0,c1,c2,c3,c4⟩,fz⟩:=HC.out.own)
  | (go_at_call 43;(with_reducible refine(zF HC.out.st _ N4.out).mono ?_);rintro e w1 ⟨rfl,hD⟩
     replace HC:=hid (HC.out.step hD)
     clear hD
     obtain⟨⟨c0,c1,c2,c3,c4⟩,fz⟩:=HC.out.own))
 obtain⟨g,c,k,t,q,rfl,rfl,hk,hklt,hl,b0,b1,b2,b3,t0,t1,t2⟩:=(show zY b V all r false false w1 from HC.out.st).tok
 have hklt2:(k:Int)<all.length:=by omega
 clear hk
 rw[show t.kind=0 from H5.out]at t0
 go_quiet (fail)
 replace HC:=hid (HC.out.drewN nq)
 clear b0 b1 b2 b3 t0 t1 t2
 obtain⟨m,hm⟩:∃ m:Nat,jH 0 (⟨t.text.toArray⟩:ByteArray).data.toList=m:=⟨_,rfl⟩
 have hm2:m<9223372036854775808:=by rw[←hm];exact HNU.out.2.2
 have HM:=hid hm
 clear hm
 go_wp2_with (first
  | (go_at_call 42;(with_reducible refine(text_yes HC.out.st 0 (by decide) H5.out ⟨t.text.toArray⟩ rfl).mono ?_);rintro e w2 ⟨rfl,hD⟩
     replace HC:=hid (HC.out.step hD)
     clear hD
     obtain⟨⟨c0,c1,c2,c3,c4⟩,fz⟩:=HC.out.own)
  | (go_at_call 44;(refine(rvalue_num ⟨t.text.toArray⟩ _ HNU.out.1 HNU.out.2.1).mono ?_);rintro e w3 ⟨rfl,rfl⟩;rw[HM.out]))
 have eN:Ex.mk 1 0 (jH 0 (hdT (t :: q)):Nat) bE []=.mk 1 0 m bE []:=congrArg (fun x:Nat=>Ex.mk 1 0 x bE []) HM.out
 rw[eN]
 obtain⟨f0,f1,f2,f3,f4⟩:=HC.out.read (.int .i64 1) (.int .i64 0) (.int .i64 m) (.string ⟨#[]⟩) (.slice none 0 0)
 refine bodyPost_ret (v:=.agg #[.int .i64 1,.int .i64 0,.int .i64 m,.string ⟨#[]⟩,.slice none 0 0]) (by simp[results,Tryd.results91,go_sem,f0,f1,f2,f3,f4]) rfl ?_
 exact HC.out.fin (rfl) (uQ _ _ 1 0 m bE (by unfold i64R;omega))
theorem prim_bad {b:Nat} {V:Value} {all r:List Tok} {w:World} {n:Nat} {d:Int} (h:zY b V all r false false w) (hd:0≤d∧d≤1000) (h1:z9 [40] r=false) (h2:z9 uo r=false) (h3:z9 vQ r=false) (h4:z9 uZ r=false) (h5:yQ r≠0) (h6:yQ r≠1):
 Calls Tryd.prog 91 #[.pointer (some ⟨b,0,none⟩),.int .i64 d] w (qM b V all w (pP (n+1) d r) (kN w.heap.size)):=by
 obtain⟨hd0,hd1⟩:=hd
 have hlt:=h.lt
 have HC:=hid (jm.start (x:=.ok () r) h)
 have ex:pP (n+1) d r=.bad r:=by rw[pP,h1,h2,h3,h4,if_neg (by decide),if_neg (by decide),if_neg (by decide),if_neg (by decide),if_neg h5];unfold zy;rw[if_neg h6];rfl
 rw[ex]
 have N1:=hid (show zS (⟨#[40]⟩:ByteArray).data.toList (PR.ok () r)=false from h1)
 have N2:=hid (show zS (⟨#[116,114,117,101]⟩:ByteArray).data.toList (PR.ok () r)=false from h2)
 have N3:=hid (show zS (⟨#[102,97,108,115,101]⟩:ByteArray).data.toList (PR.ok () r)=false from h3)
 have N4:=hid (show zS (⟨#[114,101,97,100]⟩:ByteArray).data.toList (PR.ok () r)=false from h4)
 have H5:=hid h5
 have H6:=hid h6
 have B1:=hid (show zS (⟨#[40]⟩:ByteArray).data.toList ((PR.bad r:PR Unit))=false from rfl)
 have B2:=hid (show zS (⟨#[91]⟩:ByteArray).data.toList ((PR.bad r:PR Unit))=false from rfl)
 clear h h1 h2 h3 h4 h5 h6 ex
 go_enter Tryd.func91,Tryd.ntmps91
 go_wp2_with (first
  | (go_at_call 40;(with_reducible refine(zu HC.out.st false rfl).mono ?_);rintro e w1 ⟨rfl,rfl⟩)
  | (go_at_call 43;(with_reducible refine(zF HC.out.st _ N1.out).mono ?_);rintro e w1 ⟨rfl,hD⟩
     replace HC:=hid (HC.out.step hD)
     clear hD
     obtain⟨⟨c0,c1,c2,c3,c4⟩,fz⟩:=HC.out.own)
  | (go_at_call 43;(with_reducible refine(zF HC.out.st _ N2.out).mono ?_);rintro e w1 ⟨rfl,hD⟩
     replace HC:=hid (HC.out.step hD)
     clear hD
     obtain⟨⟨c0,c1,c2,c3,c4⟩,fz⟩:=HC.out.own)
  | (go_at_call 43;(with_reducible refine(zF HC.out.st _ N3.out).mono ?_);rintro e w1 ⟨rfl,hD⟩
     replace HC:=hid (HC.out.step hD)
     clear hD
     obtain⟨⟨c0,c1,c2,c3,c4⟩,fz⟩:=HC.out.own)
  | (go_at_call 43;(with_reducible refine(zF HC.out.st _ N4.out).mono ?_);rintro e w1 ⟨rfl,hD⟩
     replace HC:=hid (HC.out.step hD)
     clear hD
     obtain⟨⟨c0,c1,c2,c3,c4⟩,fz⟩:=HC.out.own))
 obtain⟨g,c,k,t,q,rfl,rfl,hk,hklt,hl,b0,b1,b2,b3,t0,t1,t2⟩:=(show zY b V all r false false w1 from HC.out.st).tok
 have hklt2:(k:Int)<all.length:=by omega
 clear hk
 have hk0:(t.kind == 0)=false:=by have:=H5.out;simpa[yQ] using this
 go_quiet (fail)
 replace HC:=hid (HC.out.drewN nq)
 clear b0 b1 b2 b3 t0 t1 t2
 go_wp2_with (first
  | (go_at_call 42;(with_reducible refine(text_no HC.out.st 1 (by decide) H6.out).mono ?_);rintro e w2 ⟨s,rfl,hD⟩
     replace HC:=hid (HC.out.step hD)
     clear hD)
  | (go_at_call 43;(with_reducible refine(zF HC.out.st _ B1.out).mono ?_);rintro e w1 ⟨rfl,hD⟩
     replace HC:=hid (HC.out.step hD)
     clear hD
     obtain⟨⟨c0,c1,c2,c3,c4⟩,fz⟩:=HC.out.own)
  | (go_at_call 43;(with_reducible refine(zF HC.out.st _ B2.out).mono ?_);rintro e w1 ⟨rfl,hD⟩
     replace HC:=hid (HC.out.step hD)
     clear hD
     obtain⟨⟨c0,c1,c2,c3,c4⟩,fz⟩:=HC.out.own))
 obtain⟨f0,f1,f2,f3,f4⟩:=HC.out.read (.int .i64 3) (.int .i64 0) (.int .i64 0) (.string s) (.slice none 0 0)
 refine bodyPost_ret (v:=.agg #[.int .i64 3,.int .i64 0,.int .i64 0,.string s,.slice none 0 0]) (by simp[results,Tryd.results91,go_sem,f0,f1,f2,f3,f4]) rfl ?_
 exact HC.out.fin (rfl) (⟨_,uQ _ _ 3 0 0 s (by constructor <;> decide)⟩)
theorem prim_name {b:Nat} {V:Value} {all r:List Tok} {w:World} {n:Nat} {d:Int} (h:zY b V all r false false w) (hd:0≤d∧d≤1000) (h1:z9 [40] r=false) (h2:z9 uo r=false) (h3:z9 vQ r=false) (h4:z9 uZ r=false) (h6:yQ r=1) (h7:z9 [40] r.tail=false) (h8:z9 [91] r.tail=false) (hn:zG (pP (n+1) d r)):
 Calls Tryd.prog 91 #[.pointer (some ⟨b,0,none⟩),.int .i64 d] w (qM b V all w (pP (n+1) d r) (kN w.heap.size)):=by
 obtain⟨hd0,hd1⟩:=hd
 have hlt:=h.lt
 have HC:=hid (jm.start (x:=.ok () r) h)
 obtain⟨s,hs⟩:∃ s:ByteArray,s=⟨(hdT r).toArray⟩:=⟨_,rfl⟩
 have h5:yQ r≠0:=by rw[h6];decide
 have ex:pP (n+1) d r=pN n d s r.tail:=by rw[pP,h1,h2,h3,h4,if_neg (by decide),if_neg (by decide),if_neg (by decide),if_neg (by decide),if_neg h5,hs];unfold zy;rw[if_pos h6];rfl
 cases n with
 | zero=>rw[ex,pN]at hn;exact absurd hn id
 | succ n=>
 have ey:pN (n+1) d s r.tail=.ok (.mk 3 0 0 s []) r.tail:=by rw[pN,h7,h8,if_neg (by decide),if_neg (by decide)]
 rw[ex,ey]
 have N1:=hid (show zS (⟨#[40]⟩:ByteArray).data.toList (PR.ok () r)=false from h1)
 have N2:=hid (show zS (⟨#[116,114,117,101]⟩:ByteArray).data.toList (PR.ok () r)=false from h2)
 have N3:=hid (show zS (⟨#[102,97,108,115,101]⟩:ByteArray).data.toList (PR.ok () r)=false from h3)
 have N4:=hid (show zS (⟨#[114,101,97,100]⟩:ByteArray).data.toList (PR.ok () r)=false from h4)
 have H5:=hid h5
 have H6:=hid h6
 have HS:=hid hs
 have B1:=hid (show zS (⟨#[40]⟩:ByteArray).data.toList (PR.ok () r.tail)=false from h7)
 have B2:=hid (show zS (⟨#[91]⟩:ByteArray).data.toList (PR.ok () r.tail)=false from h8)
 clear h h1 h2 h3 h4 h5 h6 h7 h8 ex ey hs hn
 go_enter Tryd.func91,Tryd.ntmps91
 go_wp2_with (first
  | (go_at_call 40;(with_reducible refine(zu HC.out.st false rfl).mono ?_);rintro e w1 ⟨rfl,rfl⟩)
  | (go_at_call 43;(with_reducible refine(zF HC.out.st _ N1.out).mono ?_);rintro e w1 ⟨rfl,hD⟩
     replace HC:=hid (HC.out.step hD)
     clear hD
     obtain⟨⟨c0,c1,c2,c3,c4⟩,fz⟩:=HC.out.own)
  | (go_at_call 43;(with_reducible refine(zF HC.out.st _ N2.out).mono ?_);rintro e w1 ⟨rfl,hD⟩
     replace HC:=hid (HC.out.step hD)
     clear hD
     obtain⟨⟨c0,c1,c2,c3,c4⟩,fz⟩:=HC.out.own)
  | (go_at_call 43;(with_reducible refine(zF HC.out.st _ N3.out).mono ?_);rintro e w1 ⟨rfl,hD⟩
     replace HC:=hid (HC.out.step hD)
     clear hD
     obtain⟨⟨c0,c1,c2,c3,c4⟩,fz⟩:=HC.out.own)
  | (go_at_call 43;(with_reducible refine(zF HC.out.st _ N4.out).mono ?_);rintro e w1 ⟨rfl,hD⟩
     replace HC:=hid (HC.out.step hD)
     clear hD
     obtain⟨⟨c0,c1,c2,c3,c4⟩,fz⟩:=HC.out.own))
 obtain⟨g,c,k,t,q,rfl,rfl,hk,hklt,hl,b0,b1,b2,b3,t0,t1,t2⟩:=(show zY b V all r false false w1 from HC.out.st).tok
 have hklt2:(k:Int)<all.length:=by omega
 clear hk
 have hk0:(t.kind == 0)=false:=by have:=H5.out;simpa[yQ] using this
 go_quiet (fail)
 replace HC:=hid (HC.out.drewN nq)
 clear b0 b1 b2 b3 t0 t1 t2
 go_wp2_with (first
  | (go_at_call 42;(with_reducible refine(text_yes HC.out.st 1 (by decide) H6.out s HS.out).mono ?_);rintro e w2 ⟨rfl,hD⟩
     replace HC:=hid (HC.out.step hD)
     clear hD)
  | (go_at_call 43;(with_reducible refine(zF HC.out.st _ B1.out).mono ?_);rintro e w1 ⟨rfl,hD⟩
     replace HC:=hid (HC.out.step hD)
     clear hD
     obtain⟨⟨c0,c1,c2,c3,c4⟩,fz⟩:=HC.out.own)
  | (go_at_call 43;(with_reducible refine(zF HC.out.st _ B2.out).mono ?_);rintro e w1 ⟨rfl,hD⟩
     replace HC:=hid (HC.out.step hD)
     clear hD
     obtain⟨⟨c0,c1,c2,c3,c4⟩,fz⟩:=HC.out.own))
 obtain⟨f0,f1,f2,f3,f4⟩:=HC.out.read (.int .i64 3) (.int .i64 0) (.int .i64 0) (.string s) (.slice none 0 0)
 refine bodyPost_ret (v:=.agg #[.int .i64 3,.int .i64 0,.int .i64 0,.string s,.slice none 0 0]) (by simp[results,Tryd.results91,go_sem,f0,f1,f2,f3,f4]) rfl ?_
 exact HC.out.fin (rfl) (uQ _ _ 3 0 0 s (by constructor <;> decide))
theorem prim_call {b:Nat} {V:Value} {all r:List Tok} {w:World} {n:Nat} {d:Int} (hA:CA b V all n (d+1)) (h:zY b V all r false false w) (hd:0≤d∧d≤1000) (h1:z9 [40] r=false) (h2:z9 uo r=false) (h3:z9 vQ r=false) (h4:z9 uZ r=false) (h6:yQ r=1) (h7:z9 [40] r.tail=true) (hn:zG (pP (n+2) d r)):
 Calls Tryd.prog 91 #[.pointer (some ⟨b,0,none⟩),.int .i64 d] w (qM b V all w (pP (n+2) d r) (kN w.heap.size)):=by
 obtain⟨hd0,hd1⟩:=hd
 have hlt:=h.lt
 have HC:=hid (jm.start (x:=.ok () r) h)
 obtain⟨s,hs⟩:∃ s:ByteArray,s=⟨(hdT r).toArray⟩:=⟨_,rfl⟩
 have h5:yQ r≠0:=by rw[h6];decide
 have ex:pP (n+2) d r=pN (n+1) d s r.tail:=by rw[pP,h1,h2,h3,h4,if_neg (by decide),if_neg (by decide),if_neg (by decide),if_neg (by decide),if_neg h5,hs];unfold zy;rw[if_pos h6];rfl
 have ey:pN (n+1) d s r.tail=(pA n (d+1) r.tail.tail).bind fun es r=>.ok (.mk 7 0 0 s es) r:=by rw[pN,h7,if_pos rfl]
 rw[ex,ey]at hn ⊢
 have HN:=hid (show zG ((PR.ok () r.tail.tail).bind fun _ r=>pA n (d+1) r) from zv hn)
 have HA:=hid hA
 have N1:=hid (show zS (⟨#[40]⟩:ByteArray).data.toList (PR.ok () r)=false from h1)
 have N2:=hid (show zS (⟨#[116,114,117,101]⟩:ByteArray).data.toList (PR.ok () r)=false from h2)
 have N3:=hid (show zS (⟨#[102,97,108,115,101]⟩:ByteArray).data.toList (PR.ok () r)=false from h3)
 have N4:=hid (show zS (⟨#[114,101,97,100]⟩:ByteArray).data.toList (PR.ok () r)=false from h4)
 have H5:=hid h5
 have H6:=hid h6
 have HS:=hid hs
 have Y1:=hid (show zS (⟨#[40]⟩:ByteArray).data.toList (PR.ok () r.tail)=true from h7)
 clear h h1 h2 h3 h4 h5 h6 h7 ex ey hs hn hA
 go_enter Tryd.func91,Tryd.ntmps91
 go_wp2_with (first
  | (go_at_call 40;(with_reducible refine(zu HC.out.st false rfl).mono ?_);rintro e w1 ⟨rfl,rfl⟩)
  | (go_at_call 43;(with_reducible refine(zF HC.out.st _ N1.out).mono ?_);rintro e w1 ⟨rfl,hD⟩
     replace HC:=hid (HC.out.step hD)
     clear hD
     obtain⟨⟨c0,c1,c2,c3,c4⟩,fz⟩:=HC.out.own)
  | (go_at_call 43;(with_reducible refine(zF HC.out.st _ N2.out).mono ?_);rintro e w1 ⟨rfl,hD⟩
     replace HC:=hid (HC.out.step hD)
     clear hD
     obtain⟨⟨c0,c1,c2,c3,c4⟩,fz⟩:=HC.out.own)
  | (go_at_call 43;(with_reducible refine(zF HC.out.st _ N3.out).mono ?_);rintro e w1 ⟨rfl,hD⟩
     replace HC:=hid (HC.out.step hD)
     clear hD
     obtain⟨⟨c0,c1,c2,c3,c4⟩,fz⟩:=HC.out.own)
  | (go_at_call 43;(with_reducible refine(zF HC.out.st _ N4.out).mono ?_);rintro e w1 ⟨rfl,hD⟩
     replace HC:=hid (HC.out.step hD)
     clear hD
     obtain⟨⟨c0,c1,c2,c3,c4⟩,fz⟩:=HC.out.own))
 obtain⟨g,c,k,t,q,rfl,rfl,hk,hklt,hl,b0,b1,b2,b3,t0,t1,t2⟩:=(show zY b V all r false false w1 from HC.out.st).tok
 have hklt2:(k:Int)<all.length:=by omega
 clear hk
 have hk0:(t.kind == 0)=false:=by have:=H5.out;simpa[yQ] using this
 go_quiet (fail)
 replace HC:=hid (HC.out.drewN nq)
 clear b0 b1 b2 b3 t0 t1 t2
 go_wp2_with (first
  | (go_at_call 42;(with_reducible refine(text_yes HC.out.st 1 (by decide) H6.out s HS.out).mono ?_);rintro e w2 ⟨rfl,hD⟩
     replace HC:=hid (HC.out.step hD)
     clear hD)
  | (go_at_call 43;(with_reducible refine(zl HC.out.st _ Y1.out).mono ?_);rintro e w3 ⟨rfl,hD⟩
     replace HC:=hid (show jm b _ all w (.ok () (t :: q).tail.tail) w3 from HC.out.step hD)
     clear hD
     have hz3:=HC.out.size)
  | (go_at_call 88;(with_reducible refine(HA.out.call HC.out.st HN.out).mono ?_);rintro e w4 ⟨v,rfl,hD,hG⟩
     obtain⟨k5,k6,k7,rfl⟩:=got_forms hG HN.out
     have HG:=hid hG
     replace HC:=hid (HC.out.step hD)
     clear hD hG
     obtain⟨⟨c0,c1,c2,c3,c4⟩,fz⟩:=HC.out.own))
 obtain⟨f0,f1,f2,f3,f4⟩:=HC.out.read (.int .i64 7) (.int .i64 0) (.int .i64 0) (.string s) (.slice k5 k6 k7)
 refine bodyPost_ret (v:=.agg #[.int .i64 7,.int .i64 0,.int .i64 0,.string s,.slice k5 k6 k7]) (by simp[results,Tryd.results91,go_sem,f0,f1,f2,f3,f4]) rfl ?_
 refine HC.out.fin (by rw[jP];rfl) (jE.bind HG.out (fun a r _ ha=>?_) fun a ha=>⟨.mk 7 0 0 s a,?_⟩)
 all_goals exact⟨_,rfl,⟨by show (_:Int)≤0;decide,by show (0 :Int)≤_;decide⟩,ha.writ hz3 _ _ _ _ _⟩
theorem prim_index {b:Nat} {V:Value} {all r:List Tok} {w:World} {n:Nat} {d:Int} (hE:CE b V all n 1 (d+1)) (h:zY b V all r false false w) (hd:0≤d∧d≤1000) (h1:z9 [40] r=false) (h2:z9 uo r=false) (h3:z9 vQ r=false) (h4:z9 uZ r=false) (h6:yQ r=1) (h7:z9 [40] r.tail=false) (h8:z9 [91] r.tail=true) (hn:zG (pP (n+2) d r)):
 Calls Tryd.prog 91 #[.pointer (some ⟨b,0,none⟩),.int .i64 d] w (qM b V all w (pP (n+2) d r) (kN w.heap.size)):=by
 obtain⟨hd0,hd1⟩:=hd
 have hlt:=h.lt
 have HC:=hid (jm.start (x:=.ok () r) h)
 obtain⟨s,hs⟩:∃ s:ByteArray,s=⟨(hdT r).toArray⟩:=⟨_,rfl⟩
 have h5:yQ r≠0:=by rw[h6];decide
 have ex:pP (n+2) d r=pN (n+1) d s r.tail:=by rw[pP,h1,h2,h3,h4,if_neg (by decide),if_neg (by decide),if_neg (by decide),if_neg (by decide),if_neg h5,hs];unfold zy;rw[if_pos h6];rfl
 have ey:pN (n+1) d s r.tail=(pE n 1 (d+1) r.tail.tail).bind fun e r=>(zI [93] r).bind fun _ r=>.ok (.mk 6 0 0 s [e]) r:=by rw[pN,h7,h8,if_neg (by decide),if_pos rfl]
 rw[ex,ey]at hn ⊢
 have HN:=hid (show zG ((PR.ok () r.tail.tail).bind fun _ r=>pE n 1 (d+1) r) from zv hn)
 have HE:=hid hE
 have N1:=hid (show zS (⟨#[40]⟩:ByteArray).data.toList (PR.ok () r)=false from h1)
 have N2:=hid (show zS (⟨#[116,114,117,101]⟩:ByteArray).data.toList (PR.ok () r)=false from h2)
 have N3:=hid (show zS (⟨#[102,97,108,115,101]⟩:ByteArray).data.toList (PR.ok () r)=false from h3)
 have N4:=hid (show zS (⟨#[114,101,97,100]⟩:ByteArray).data.toList (PR.ok () r)=false from h4)
 have H5:=hid h5
 have H6:=hid h6
 have HS:=hid hs
 have B1:=hid (show zS (⟨#[40]⟩:ByteArray).data.toList (PR.ok () r.tail)=false from h7)
 have Y1:=hid (show zS (⟨#[91]⟩:ByteArray).data.toList (PR.ok () r.tail)=true from h8)
 clear h h1 h2 h3 h4 h5 h6 h7 h8 ex ey hs hn hE
 go_enter Tryd.func91,Tryd.ntmps91
 go_wp2_with (first
  | (go_at_call 40;(with_reducible refine(zu HC.out.st false rfl).mono ?_);rintro e w1 ⟨rfl,rfl⟩)
  | (go_at_call 43;(with_reducible refine(zF HC.out.st _ N1.out).mono ?_);rintro e w1 ⟨rfl,hD⟩
     replace HC:=hid (HC.out.step hD)
     clear hD
     obtain⟨⟨c0,c1,c2,c3,c4⟩,fz⟩:=HC.out.own)
  | (go_at_call 43;(with_reducible refine(zF HC.out.st _ N2.out).mono ?_);rintro e w1 ⟨rfl,hD⟩
     replace HC:=hid (HC.out.step hD)
     clear hD
     obtain⟨⟨c0,c1,c2,c3,c4⟩,fz⟩:=HC.out.own)
  | (go_at_call 43;(with_reducible refine(zF HC.out.st _ N3.out).mono ?_);rintro e w1 ⟨rfl,hD⟩
     replace HC:=hid (HC.out.step hD)
     clear hD
     obtain⟨⟨c0,c1,c2,c3,c4⟩,fz⟩:=HC.out.own)
  | (go_at_call 43;(with_reducible refine(zF HC.out.st _ N4.out).mono ?_);rintro e w1 ⟨rfl,hD⟩
     replace HC:=hid (HC.out.step hD)
     clear hD
     obtain⟨⟨c0,c1,c2,c3,c4⟩,fz⟩:=HC.out.own))
 obtain⟨g,c,k,t,q,rfl,rfl,hk,hklt,hl,b0,b1,b2,b3,t0,t1,t2⟩:=(show zY b V all r false false w1 from HC.out.st).tok
 have hklt2:(k:Int)<all.length:=by omega
 clear hk
 have hk0:(t.kind == 0)=false:=by have:=H5.out;simpa[yQ] using this
 go_quiet (fail)
 replace HC:=hid (HC.out.drewN nq)
 clear b0 b1 b2 b3 t0 t1 t2
 go_wp2_with (first
  | (go_at_call 42;(with_reducible refine(text_yes HC.out.st 1 (by decide) H6.out s HS.out).mono ?_);rintro e w2 ⟨rfl,hD⟩
     replace HC:=hid (HC.out.step hD)
     clear hD)
  | (go_at_call 43;(with_reducible refine(zF HC.out.st _ B1.out).mono ?_);rintro e w3 ⟨rfl,hD⟩
     replace HC:=hid (HC.out.step hD)
     clear hD
     obtain⟨⟨c0,c1,c2,c3,c4⟩,fz⟩:=HC.out.own)
  | (go_at_call 43;(with_reducible refine(zl HC.out.st _ Y1.out).mono ?_);rintro e w4 ⟨rfl,hD⟩
     replace HC:=hid (show jm b _ all w (.ok () (t :: q).tail.tail) w4 from HC.out.step hD)
     clear hD
     have hz1:=HC.out.size)
  | (go_at_call 81;(with_reducible refine(HE.out.call HC.out.st HN.out).mono ?_);rintro e w5 ⟨v,rfl,hD,hG2⟩
     obtain⟨k1,k2,k3,k4,k5,k6,k7,rfl⟩:=q6 hG2 HN.out
     have HG2:=hid hG2
     have hb1:=HC.out.st.lt
     replace HC:=hid (HC.out.step hD)
     have hb2:w5.heap.size≠b:=by have:=HC.out.st.lt;omega
     clear hD hG2)
  | (go_at_call 45;(with_reducible refine(zb (HC.out.alloc _).st _).mono ?_);rintro e w6 ⟨rfl,hD⟩
     have hk:=(zM.of_below (L:=w4.heap.size) ((Below.refl _ _).alloc (Nat.le_refl _) _)).trans (zM.did hD hb1)
     have HK:=hid hk
     obtain⟨p3,r3⟩:=off_own hD.off (k:=w5.heap.size) (by simp) hb2
     replace HC:=hid ((HC.out.alloc _).step hD)
     have hz6:=HC.out.size
     clear hD hk
     obtain⟨⟨c0,c1,c2,c3,c4⟩,fz⟩:=HC.out.own))
 obtain⟨f0,f1,f2,f3,f4⟩:=HC.out.reada (.cells #[.int .i64 k1,.int .i64 k2,.int .i64 k3,.string k4,.slice k5 k6 k7] 48) (.int .i64 6) (.int .i64 0) (.int .i64 0) (.string s) (.slice (some ⟨w6.heap.size,0,none⟩) 1 1)
 refine bodyPost_ret (v:=.agg #[.int .i64 6,.int .i64 0,.int .i64 0,.string s,.slice (some ⟨w6.heap.size,0,none⟩) 1 1]) (by simp[results,Tryd.results91,go_sem,f0,f1,f2,f3,f4]) rfl ?_
 refine HC.out.fina ?_ ((HG2.out.imp fun a ha=>(show kN w.heap.size ((writ w6 w.heap.size _ _ _ _ _).alloc _) (.mk 6 0 0 s [a]) _ from⟨_,rfl,⟨by show (_:Int)≤0;decide,by show (0 :Int)≤_;decide⟩,vU ((kN.keep ha HK.out (Nat.le_refl _)).writ hz1 _ _ _ _ _) (Nat.le_refl _) (by rw[xM];omega) (xM _ _ _ _ _ _ _).symm⟩)).bind (fun a r _ ha=>yn ha) fun a ha=>⟨_,ha⟩)
 rw[jP]
 simp only[xD]
 rw[←bind_un]
 rfl
def yo (a:Int):Nat→List Int
 | 0=>[]
 | m+1=>a :: yo (a+1) m
theorem twos_range:um=yo 1 19:=by decide
theorem ones_range:ones=yo 20 9:=by decide
def opIs (lev:Int) (l:List Tok) (op:Int):Bool:=decide (z7 op=lev) && z9 (yC op) l
theorem opFrom_cons (lev:Int) (l:List Tok) (a:Int) (r:List Int):jI lev l (a :: r)=if opIs lev l a=true then a else jI lev l r:=by
 rw[jI]
 unfold opIs
 simp only[Bool.and_eq_true,decide_eq_true_eq]
theorem opFrom_hit {lev:Int} {l:List Tok} {k:Int} (hk:opIs lev l k=true):∀ (m:Nat) (a:Int),a≤k→k<a+m→(∀ j,a≤j→j<k→opIs lev l j=false)→jI lev l (yo a m)=k
 | 0,a,h1,h2,_=>by omega
 | m+1,a,h1,h2,h=>by
   rw[yo,opFrom_cons]
   by_cases e:a=k
   · subst e
     rw[if_pos hk]
   · rw[h a (Int.le_refl _) (by omega),if_neg (by decide)]
     exact opFrom_hit hk m (a+1) (by omega) (by omega) fun j h3=>h j (by omega)
theorem opFrom_none {lev:Int} {l:List Tok}:∀ (m:Nat) (a:Int),(∀ j,a≤j→j<a+m→opIs lev l j=false)→jI lev l (yo a m)=0
 | 0,a,_=>rfl
 | m+1,a,h=>by
   rw[yo,opFrom_cons,h a (Int.le_refl _) (by omega),if_neg (by decide)]
   exact opFrom_none m (a+1) fun j h3 h4=>h j (by omega) (by omega)
theorem unFrom_hit {l:List Tok} {k:Int} (hk:z9 (yC k) l=true):∀ (m:Nat) (a:Int),a≤k→k<a+m→(∀ j,a≤j→j<k→z9 (yC j) l=false)→qy l (yo a m)=k
 | 0,a,h1,h2,_=>by omega
 | m+1,a,h1,h2,h=>by
   rw[yo,qy]
   by_cases e:a=k
   · subst e
     rw[if_pos hk]
   · rw[h a (Int.le_refl _) (by omega),if_neg (by decide)]
     exact unFrom_hit hk m (a+1) (by omega) (by omega) fun j h3=>h j (by omega)
theorem unFrom_none {l:List Tok}:∀ (m:Nat) (a:Int),(∀ j,a≤j→j<a+m→z9 (yC j) l=false)→qy l (yo a m)=0
 | 0,a,_=>rfl
 | m+1,a,h=>by
   rw[yo,qy,h a (Int.le_refl _) (by omega),if_neg (by decide)]
   exact unFrom_none m (a+1) fun j h3 h4=>h j (by omega) (by omega)
def opX (lev:Int) (x:PR Unit):Int:=match x with | .ok _ r=>opAt lev r | _=>0
def opIsX (lev:Int) (x:PR Unit) (op:Int):Bool:=decide (z7 op=lev) && zS (yC op) x
theorem opX_hit {lev k:Int} {x:PR Unit} (h1:1≤k) (h2:k≤19) (hk:opIsX lev x k=true) (h:∀ j,1≤j→j<k→opIsX lev x j=false):opX lev x=k:=by
 cases x with
 | ok a r=>
   show jI lev r um=k
   rw[twos_range]
   exact opFrom_hit hk 19 1 h1 (by omega) h
 | _=>simp[opIsX,zS]at hk
theorem opX_none {lev:Int} {x:PR Unit} (h:∀ j,1≤j→j<20→opIsX lev x j=false):opX lev x=0:=by
 cases x with
 | ok a r=>
   show jI lev r um=0
   rw[twos_range]
   exact opFrom_none 19 1 h
 | _=>rfl
theorem rlevel_is (op l:Int) (h:z7 op=l) (w:World):Calls Tryd.prog 72 #[.int .i64 op] w fun e w'=>e=.returned (.int .i64 l)∧w=w':=h ▸ rlevel_any op w
theorem xO {b:Nat} {V:Value} {all:List Tok} {x:PR Unit} {w:World} (op:Int) (s:ByteArray) (h:xK op=s) (hs:jS b V all x w):Calls Tryd.prog 90 #[.int .i64 op] w fun e w'=>e=.returned (.string s)∧q7 b V all w x w':=by
 subst h
 exact(rsign_any op w).mono fun _ _ ⟨he,hb⟩=>⟨he,hs.below hb,OffB.of_below hb hs.lt⟩
theorem jM {b:Nat} {V:Value} {all:List Tok} {x:PR Unit} {w:World} (h:jS b V all x w) (s:ByteArray) (v:Bool) (hv:zS s.data.toList x=v):
 Calls Tryd.prog 59 #[.pointer (some ⟨b,0,none⟩),.string s] w fun e w'=>e=.returned (.bool v)∧q7 b V all w x w':=
 (is_is h s v hv).mono fun _ _ ⟨he,m,hm⟩=>⟨he,hm ▸ ⟨h.drewN m,(OffB.refl b _ w).drewN m⟩⟩
theorem op_any {b:Nat} {V:Value} {all:List Tok} {x:PR Unit} {w:World} (h:jS b V all x w) (lev:Int) (o:Int) (ho:opX lev x=o):
 Calls Tryd.prog 87 #[.pointer (some ⟨b,0,none⟩),.int .i64 lev] w fun e w'=>e=.returned (.int .i64 o)∧q7 b V all w x w':=by
 have HD:=hid (show q7 b V all w x w from⟨h,OffB.refl _ _ _⟩)
 have HO:=hid ho
 clear h ho
 go_enter Tryd.func87,Tryd.ntmps87
 go_wp2
 go_loopw [5] (fun i wr=>∃ k:Int,i=.int .i64 k∧1≤k∧k≤20∧(∀ j,1≤j→j<k→opIsX lev x j=false)∧q7 b V all w x wr) (fun i _=>(20-intOf i).toNat)
 case atStart=>exact⟨1,rfl,by omega,by omega,fun j h1 h2=>by omega,HD.out⟩
 case round=>
  obtain⟨k,rfl,hk1,hk2,hno,hD⟩:=hrel
  have HN:=hid hno
  replace HD:=hid hD
  clear hno hD
  by_cases hlt:k≤19
  · obtain⟨l,hl⟩:∃ l,z7 k=l:=⟨_,rfl⟩
    obtain⟨s,hs⟩:∃ s,xK k=s:=⟨_,rfl⟩
    have HL:=hid hl
    have HS:=hid hs
    by_cases hll:l=lev
    · subst hll
      cases hv:zS s.data.toList x with
      | true=>
        have hok:opX l x=k:=opX_hit hk1 hlt (by unfold opIsX yC;rw[hs,hv,decide_eq_true hl];rfl) HN.out
        have HV:=hid hv
        have HK:=hid (hok.symm.trans HO.out)
        clear hl hs hv hok
        go_wp2_with (first
         | (go_at_call 72;(with_reducible refine(rlevel_is k l HL.out _).mono ?_);rintro e w1 ⟨rfl,rfl⟩)
         | (go_at_call 90;(with_reducible refine(xO k s HS.out HD.out.st).mono ?_);rintro e w2 ⟨rfl,hD⟩;replace HD:=hid (HD.out.after hD);clear hD)
         | (go_at_call 59;(with_reducible refine(jM HD.out.st s true HV.out).mono ?_);rintro e w3 ⟨rfl,hD⟩;replace HD:=hid (HD.out.after hD);clear hD))
        go_ret
        exact⟨zt HK.out,HD.out⟩
      | false=>
        have hno2:∀ j,1≤j→j<k+1→opIsX l x j=false:=fun j h1 h2=>by
         by_cases e:j=k
         · subst e
           unfold opIsX yC
           rw[hs,hv,Bool.and_false]
         · exact HN.out j h1 (by omega)
        replace HN:=hid hno2
        have HV:=hid hv
        clear hl hs hv hno2
        go_wp2_with (first
         | (go_at_call 72;(with_reducible refine(rlevel_is k l HL.out _).mono ?_);rintro e w1 ⟨rfl,rfl⟩)
         | (go_at_call 90;(with_reducible refine(xO k s HS.out HD.out.st).mono ?_);rintro e w2 ⟨rfl,hD⟩;replace HD:=hid (HD.out.after hD);clear hD)
         | (go_at_call 59;(with_reducible refine(jM HD.out.st s false HV.out).mono ?_);rintro e w3 ⟨rfl,hD⟩;replace HD:=hid (HD.out.after hD);clear hD))
        go_roundw
        case rel=>exact⟨k+1,rfl,by omega,by omega,HN.out,HD.out⟩
        case measure=>simp[intOf];omega
    · have hll2:(l == lev)=false:=by simpa using hll
      have hno2:∀ j,1≤j→j<k+1→opIsX lev x j=false:=fun j h1 h2=>by
       by_cases e:j=k
       · subst e
         unfold opIsX
         rw[hl,decide_eq_false hll,Bool.false_and]
       · exact HN.out j h1 (by omega)
      replace HN:=hid hno2
      clear hl hs hno2 hll
      go_wp2_with (first
       | (go_at_call 72;(with_reducible refine(rlevel_is k l HL.out _).mono ?_);rintro e w1 ⟨rfl,rfl⟩))
      go_roundw
      case rel=>exact⟨k+1,rfl,by omega,by omega,HN.out,HD.out⟩
      case measure=>simp[intOf];omega
  · obtain rfl:k=20:=by omega
    go_wp2
    go_ret
    exact⟨zt (by rw[←HO.out,opX_none HN.out]),HD.out⟩
end Go.Proofs.YtndgkfkieogplaaDoor
