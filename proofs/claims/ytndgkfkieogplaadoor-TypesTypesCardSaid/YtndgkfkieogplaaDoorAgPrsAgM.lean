import Derived.Test.YtndgkfkieogplaaDoorAgParSizeS
import Derived.Test.YtndgkfkieogplaaDoorAgParBlanks
import Derived.Test.YtndgkfkieogplaaDoorAgTyArg
import Derived.Test.YtndgkfkieogplaaDoorAgTyGlo
import Derived.Test.YtndgkfkieogplaaDoorAgTokRefA
set_option linter.unusedSimpArgs false
set_option linter.unusedVariables false
set_option maxRecDepth 100000
/- What is parsed, told, is parsed to the same; blanks and comments make no difference: of the plain answers. -/
namespace Go.Proofs.YtndgkfkieogplaaDoor
open Lib (hid)
open Go.RowKit
theorem docP_ok {s:ByteArray} {p:Pr} {ln:Nat} (h:kS s=(p,0,ln)):ln=0∧s.size≤100000∧∃ ts r,zN s.data.toList 1=(ts,none)∧qA ts=.ok p r∧prOK p=true:=by
 by_cases hs:100000<s.size
 · rw[docP_long hs]at h
   cases h
 · have h1:s.size≤100000:=by omega
   cases hc:(zN s.data.toList 1).2 with
   | some n=>
     rw[docP_no h1 hc]at h
     cases h
   | none=>
     have hs2:=scan_none hc
     rw[zAc h1 hs2]at h
     unfold docT at h
     cases hp:qA (zN s.data.toList 1).1 with
     | ok q r=>
       rw[hp]at h
       by_cases hq:prOK q=true
       · simp only[if_pos hq]at h
         injection h with e1 e2
         injection e2 with e2 e3
         subst e1
         exact⟨e3.symm,h1,_,r,hs2,hp,hq⟩
       · simp only[if_neg hq]at h
         cases h
     | bad r=>
       rw[hp]at h
       cases h
     | deep r=>
       rw[hp]at h
       cases h
     | out=>exact absurd (xL (jT _ _ _ _ (Nat.le_refl _) hs2)) (by rw[hp];exact id)
theorem docP_of {s:ByteArray} (h:s.size≤100000) {ts r:List Tok} {p:Pr} (hs:zN s.data.toList 1=(ts,none)) (hp:qA ts=.ok p r) (hok:prOK p=true):kS s=(p,0,0):=by
 rw[zAc h hs]
 unfold docT
 rw[hp]
 simp only[if_pos hok]
theorem docP_told {s:ByteArray} {p:Pr} {ln:Nat} (h:kS s=(p,0,ln)) (hs:s.size≤500):prOK p=true∧(prT p).length≤25000∧kS ⟨(prT p).toArray⟩=(p,0,0):=by
 obtain⟨_,_,ts,r,h1,h2,h3⟩:=docP_ok h
 obtain⟨h4,us,q,h5,h6⟩:=parse_again h1 h2 h3 1
 rw[bsz]at h4
 have h7:(prT p).length≤25000:=by omega
 exact⟨h3,h7,docP_of (by show (prT p).toArray.size≤100000;rw[List.size_toArray];omega) h5 h6 h3⟩
structure Small (p:Pr):Prop where
 ok:prOK p=true
 sz:Sized p
 n1:p.arrays.length≤1000000
 n2:p.funcs.length≤1000000
 cn:∀ f ∈ p.funcs,f.params.length+cntSs f.body≤1000000000
theorem y8 {s:ByteArray} {p:Pr} {ln:Nat} (hs:s.size≤500) (h:kS s=(p,0,ln)):Small p:=by
 obtain⟨h1,h2,_⟩:=docP_told h hs
 obtain⟨h3,h4,h5,h6⟩:=sized_of h1 h2 (by omega)
 exact⟨h1,h3,h4,h5,h6⟩
theorem body_doc {s:ByteArray} {p:Pr} {ln:Nat} (hs:BodyR s) (h:kS s=(p,0,ln)):Small p∧(∃ f fs,p.funcs=f :: fs)∧(p.funcs.length=2→∃ b,p=ji b):=by
 refine⟨y8 hs.1 h,?_⟩
 obtain⟨_,_,ts,r,h1,h2,h3⟩:=docP_ok h
 obtain⟨_,Y,X,h4,h5,h6⟩:=hs
 obtain⟨us,h7,h8⟩:=((pre_scans.app h5).app suf_scans).whole 1
 rw[h4]at h1
 rw[h1]at h7
 obtain rfl:ts=us:=(Prod.mk.inj h7).1
 have h9:fl (ky++(X++(jO++[kT])))=fl ts:=by
  have e:ky++(X++(jO++[kT]))=fl ts:=by
   rw[h8]
   simp only[List.append_assoc]
   rfl
  rw[e]
  unfold fl
  rw[List.map_map]
  rfl
 obtain⟨q,hq⟩:=parse_fl h9 h2
 obtain⟨⟨b,fs,qs,he⟩,h10⟩:=body_form h6 hq
 refine⟨⟨kE b,fs,by rw[he]⟩,fun hl=>?_⟩
 obtain⟨b,hb⟩:=h10 hl
 exact⟨b,hb⟩
theorem tl_nil (s:ByteArray):s.toList=[]↔s.size=0:=by
 rw[Lib.toList_data,Lib.size_eq]
 exact List.length_eq_zero_iff.symm
section
variable (B:Nat) (op n:Int) (name:ByteArray) (A:Option Addr) (m cap:Nat) (w:World)
set_option maxHeartbeats 2000000 in
theorem rightExpr_plain (k:Int) (hk:k=1∨k=2∨k=4∨k=8):
 Calls Tryd.prog 85 #[.agg #[.int .i64 k,.int .i64 op,.int .i64 n,.string name,.slice A m cap]] w fun e w'=>e=.returned (.bool (z6 k op n name m))∧Below w.heap.size w w':=by
 rcases hk with rfl | rfl | rfl | rfl
 all_goals
  go_enter Tryd.func85,Tryd.ntmps85
  go_wp2_with (fail)
  all_goals go_ret
  all_goals refine⟨zD ?_,((Below.refl _ _).alloc (Nat.le_refl _) _).alloc (by simp) _⟩
  all_goals go_light
  all_goals simp_all [z6,eB,tl_nil]
 all_goals omega
set_option maxHeartbeats 2000000 in
theorem rightExpr_named (k:Int) (hk:k=3∨k=6∨k=7) (b:Bool) (hb:ud name=b):
 Calls Tryd.prog 85 #[.agg #[.int .i64 k,.int .i64 op,.int .i64 n,.string name,.slice A m cap]] w fun e w'=>e=.returned (.bool (z6 k op n name m))∧Below w.heap.size w w':=by
 have HB:=hid hb
 clear hb
 cases b
 all_goals rcases hk with rfl | rfl | rfl
 all_goals
  go_enter Tryd.func85,Tryd.ntmps85
  go_wp2_with (go_at_call 63;(with_reducible refine(nm_is name _ HB.out _).mono ?_);rintro e w1 ⟨rfl,hb1⟩;obtain⟨hc1,hf1⟩:=qE hb1)
  all_goals go_ret
  all_goals refine⟨zD ?_,(((Below.refl _ _).alloc (Nat.le_refl _) _).alloc (by simp) _).trans (hb1.mono (by simp;omega))⟩
  all_goals have HB':=HB.out
  all_goals go_light
  all_goals simp_all [z6]
 all_goals omega
set_option maxHeartbeats 2000000 in
theorem rightExpr_two (ht:TreeTab B w) (hB:B≤w.heap.size):
 Calls Tryd.prog 85 #[.agg #[.int .i64 5,.int .i64 op,.int .i64 n,.string name,.slice A m cap]] w fun e w'=>e=.returned (.bool (z6 5 op n name m))∧Below w.heap.size w w':=by
 have HT:=hid ht
 clear ht
 go_enter Tryd.func85,Tryd.ntmps85
 go_wp2_with (go_at_call 89;(with_reducible refine(level_any op _ (HT.out.below (((Below.refl _ _).alloc hB _).alloc (by simp;omega) _)).rows).mono ?_);rintro e w1 ⟨rfl,hb1⟩;obtain⟨hc1,hf1⟩:=qE hb1)
 all_goals go_ret
 all_goals refine⟨zD ?_,(((Below.refl _ _).alloc (Nat.le_refl _) _).alloc (by simp) _).trans (hb1.mono (by simp;omega))⟩
 all_goals go_light
 all_goals simp_all [z6,eB,tl_nil]
 all_goals omega
set_option maxHeartbeats 2000000 in
theorem rightExpr_other (k:Int) (hk:k<1∨8<k):
 Calls Tryd.prog 85 #[.agg #[.int .i64 k,.int .i64 op,.int .i64 n,.string name,.slice A m cap]] w fun e w'=>e=.returned (.bool (z6 k op n name m))∧Below w.heap.size w w':=by
 have n1:(k == 1)=false:=by simp;omega
 have n2:(k == 2)=false:=by simp;omega
 have n3:(k == 3)=false:=by simp;omega
 have n4:(k == 4)=false:=by simp;omega
 have n5:(k == 5)=false:=by simp;omega
 have n6:(k == 6)=false:=by simp;omega
 have n7:(k == 7)=false:=by simp;omega
 have n8:(k == 8)=false:=by simp;omega
 have hf:Hid (z6 k op n name m=false):=by
  unfold Hid z6
  rw[if_neg (by omega),if_neg (by omega),if_neg (by omega),if_neg (by omega),if_neg (by omega),if_neg (by omega),if_neg (by omega),if_neg (by omega)]
 clear hk
 go_enter Tryd.func85,Tryd.ntmps85
 go_wp2_with (fail)
 go_ret
 exact⟨zD hf.out.symm,((Below.refl _ _).alloc (Nat.le_refl _) _).alloc (by simp) _⟩
theorem rightExpr_any (k:Int) (ht:TreeTab B w) (hB:B≤w.heap.size):
 Calls Tryd.prog 85 #[.agg #[.int .i64 k,.int .i64 op,.int .i64 n,.string name,.slice A m cap]] w fun e w'=>e=.returned (.bool (z6 k op n name m))∧Below w.heap.size w w':=by
 by_cases h1:k=1∨k=2∨k=4∨k=8
 · exact rightExpr_plain op n name A m cap w k h1
 by_cases h2:k=3∨k=6∨k=7
 · exact rightExpr_named op n name A m cap w k h2 _ rfl
 by_cases h3:k=5
 · subst h3
   exact rightExpr_two B op n name A m cap w ht hB
 · exact rightExpr_other op n name A m cap w k (by omega)
end
end Go.Proofs.YtndgkfkieogplaaDoor
