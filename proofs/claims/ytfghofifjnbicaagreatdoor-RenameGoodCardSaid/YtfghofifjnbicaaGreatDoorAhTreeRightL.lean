import Derived.Test.YtfghofifjnbicaaGreatDoorAhZed
import Derived.Test.YtfghofifjnbicaaGreatDoorAhParFn
import Derived.Test.YtfghofifjnbicaaGreatDoorAhTokRefA
set_option linter.unusedSimpArgs false
set_option linter.unusedVariables false
set_option maxRecDepth 100000
/- The contracts of the validation of package tree: lists of expressions and of statements. -/
namespace Go.Proofs.YtfghofifjnbicaaGreatDoor
open Lib (hid)
open Go.RowKit
theorem yk (B:Nat) (k op n:Int) (name:ByteArray) (A:Option Addr) (m cap:Nat) (b:Bool) (hb:zh k op n name m=b) (w:World) (ht:TreeTab B w) (hB:B≤w.heap.size):
 Calls Tryz.prog 115 #[.agg #[.int .i64 k,.int .i64 op,.int .i64 n,.string name,.slice A m cap]] w fun e w'=>e=.returned (.bool b)∧Below w.heap.size w w':=
 hb ▸ rightExpr_any B op n name A m cap w k ht hB
def ExsC (k:Nat):Prop:=∀ (B:Nat) (d:Int) (l:List Ex) (b:Bool) (v:Value) (w:World),0≤d→d+k=101→zr l k=b→TreeTab B w→B≤w.heap.size→qw B w v l→
 Calls Tryz.prog 104 #[v,.int .i64 d] w fun e w'=>e=.returned (.bool b)∧Below w.heap.size w w'
theorem ExsC.call {k:Nat} (h:ExsC k) (B:Nat) (d:Int) (l:List Ex) (b:Bool) (v:Value) (w:World) (h0:0≤d) (hd:d+k=101) (hb:zr l k=b) (ht:TreeTab B w) (hB:B≤w.heap.size) (hl:qw B w v l):
 Calls Tryz.prog 104 #[v,.int .i64 d] w fun e w'=>e=.returned (.bool b)∧Below w.heap.size w w':=h B d l b v w h0 hd hb ht hB hl
set_option maxHeartbeats 2000000 in
theorem yp (k:Nat) (ih:∀ k',k'+1=k→ExsC k'):ExsC k:=by
 intro B d l b v w hd0 hd hb ht hB hl;have hdu:d≤101:=by omega
 have HDD:=hid hd;clear hd;obtain⟨A,cap,rfl,hn⟩:=hl.form;have HT:=hid ht;have HL:=hid hl;have HB:=hid hb;have HI:=hid ih;clear ht hl hb ih;go_enter Tryz.func104,Tryz.ntmps104;go_wp2_with (fail)
 go_loopw [9] (fun iv wr=>∃ j:Nat,j≤l.length∧iv=.int .i64 j∧zr (l.take j) k=true∧Below w.heap.size w wr) (fun iv _=>l.length-(intOf iv).toNat)
 case atStart=>exact⟨0,Nat.zero_le _,rfl,yL _,Below.refl _ _⟩
 case round=>
  obtain⟨j,hj,rfl,hall,hbw⟩:=hrel;have HA:=hid hall;clear hall;have hsz:=hbw.size;by_cases hlt:j<l.length
  · obtain⟨⟨k0,op,n,name,args⟩,he⟩:∃ e,l[j]? =some e:=⟨_,List.getElem?_eq_getElem hlt⟩
    have HE:=hid he;obtain⟨g,o,v,rfl,hg,h0,h1,h2,h3,h4,hs⟩:=(HL.out.below (hbw.mono hB) Zr).cells he;obtain⟨A',cap',rfl,hn'⟩:=hs.form;have HS:=hid hs;have hgs:g<wr.heap.size:=by omega
    have hbB:=hbw.mono hB;have hBr:B≤wr.heap.size:=Nat.le_trans hB hsz;clear he hs;rcases k with _ | k'
    · have hd1:decide ((100 :Int)<d)=true:=by have:=HDD.out;simp;omega
      have hbad:Hid (zr l 0=false):=xT HE.out (by rw[ju];simp);go_wp2_with (fail);go_ret;exact⟨zC (by rw[←HB.out,hbad.out]),hbw.alloc hsz _⟩
    · have hd1:decide ((100 :Int)<d)=false:=by have:=HDD.out;simp;omega
      have hd2:(d+1)+(k':Int)=101:=by have:=HDD.out;omega
      have hd3:0≤d+1:=by omega
      have HD:=hid hd2;clear hd2;obtain⟨b1,hb1⟩:∃ b,zh k0 op n name args.length=b:=⟨_,rfl⟩
      obtain⟨b2,hb2⟩:∃ b,zr args k'=b:=⟨_,rfl⟩
      have HEX:Hid (yr (.mk k0 op n name args) (k'+1)=(b1 && b2)):=by
       unfold Hid;rw[ju,hb1,Nat.add_sub_cancel,hb2];simp
      have HB1:=hid hb1;have HB2:=hid hb2;clear hb1 hb2;cases b1
      · go_wp2_with (go_at_call 115;(with_reducible refine(yk B _ _ _ _ _ _ _ _ HB1.out _ (HT.out.below (hbB.alloc hBr _)) (by simp;omega)).mono ?_);rintro e w1 ⟨rfl,hx1⟩;obtain⟨hc1,hf1⟩:=zu hx1)
        go_ret;exact⟨zC (by rw[←HB.out,xT HE.out HEX.out]),(hbw.alloc hsz _).trans (hx1.mono (by simp;omega))⟩
      · cases b2
        · go_wp2_with (first
           | (go_at_call 115;(with_reducible refine(yk B _ _ _ _ _ _ _ _ HB1.out _ (HT.out.below (hbB.alloc hBr _)) (by simp;omega)).mono ?_);rintro e w1 ⟨rfl,hx1⟩;obtain⟨hc1,hf1⟩:=zu hx1;have hz1:=hx1.size;have hbx:=(hbw.alloc hsz _).trans (hx1.mono (by simp;omega)))
           | (go_at_call 104;(with_reducible refine((HI.out k' rfl).call B _ args _ _ _ hd3 HD.out HB2.out (HT.out.below (hbx.mono hB)) (Nat.le_trans hB hbx.size) (HS.out.below (Zb.alloc hBr _ |>.trans (hx1.mono (by simp;omega))) Zr)).mono ?_);rintro e w2 ⟨rfl,hx2⟩))
          go_ret;exact⟨zC (by rw[←HB.out,xT HE.out HEX.out]),hbx.trans (hx2.mono hbx.size)⟩
        · go_wp2_with (first
           | (go_at_call 115;(with_reducible refine(yk B _ _ _ _ _ _ _ _ HB1.out _ (HT.out.below (hbB.alloc hBr _)) (by simp;omega)).mono ?_);rintro e w1 ⟨rfl,hx1⟩;obtain⟨hc1,hf1⟩:=zu hx1;have hz1:=hx1.size;have hbx:=(hbw.alloc hsz _).trans (hx1.mono (by simp;omega)))
           | (go_at_call 104;(with_reducible refine((HI.out k' rfl).call B _ args _ _ _ hd3 HD.out HB2.out (HT.out.below (hbx.mono hB)) (Nat.le_trans hB hbx.size) (HS.out.below (Zb.alloc hBr _ |>.trans (hx1.mono (by simp;omega))) Zr)).mono ?_);rintro e w2 ⟨rfl,hx2⟩))
          go_roundw
          case rel=>exact⟨j+1,by omega,by go_num,by rw[uI HE.out,HA.out,HEX.out];rfl,hbx.trans (hx2.mono hbx.size)⟩
          case measure=>simp[intOf];omega
  · go_wp2_with (fail)
    go_ret;refine⟨zC ?_,hbw⟩;rw[←HB.out,←HA.out,List.take_of_length_le (by omega)]
theorem vP:∀ k,ExsC k
 | 0=>yp 0 (fun _ h=>by omega)
 | k+1=>yp (k+1) (fun k' h=>by
    obtain rfl:k'=k:=by omega
    exact vP k')
theorem rightExprs_any (B:Nat) (l:List Ex) (b:Bool) (hb:zr l 100=b) (v:Value) (w:World) (ht:TreeTab B w) (hB:B≤w.heap.size) (hl:qw B w v l):
 Calls Tryz.prog 104 #[v,.int .i64 1] w fun e w'=>e=.returned (.bool b)∧Below w.heap.size w w':=vP 100 B 1 l b v w (by decide) (by decide) hb ht hB hl
theorem rightType_any (t:Int) (w:World):Calls Tryz.prog 88 #[.int .i64 t] w fun e w'=>e=.returned (.bool (yw t))∧w=w':=by
 go_enter Tryz.func88,Tryz.ntmps88;go_wp2_with (fail)
 all_goals go_ret
 all_goals refine⟨zC ?_,rfl⟩
 all_goals go_light
 all_goals (unfold yw;rw[Bool.eq_iff_iff];simp_all)
theorem jk (t:Int) (b:Bool) (h:yw t=b) (w:World):Calls Tryz.prog 88 #[.int .i64 t] w fun e w'=>e=.returned (.bool b)∧w=w':=h ▸ rightType_any t w
theorem tl_nil' (s:ByteArray):s.toList=[]↔s.size=0:=by
 rw[Lib.toList_data,Lib.size_eq];exact List.length_eq_zero_iff.symm
section
variable (ty:Int) (name:ByteArray) (A1 A2 A3:Option Addr) (m1 m2 m3 c1 c2 c3:Nat) (w:World)
set_option maxHeartbeats 4000000 in
theorem rightStmt_plain (k:Int) (ic:Bool) (hk:k=4∨k=5∨k=6∨k=7∨k=8∨k=9):
 Calls Tryz.prog 103 #[.agg #[.int .i64 k,.int .i64 ty,.string name,.slice A1 m1 c1,.slice A2 m2 c2,.slice A3 m3 c3]] w fun e w'=>e=.returned (.bool (zZ k ty name m1 m2 m3 ic))∧Below w.heap.size w w':=by
 rcases hk with rfl | rfl | rfl | rfl | rfl | rfl
 all_goals
  go_enter Tryz.func103,Tryz.ntmps103;go_wp2_with (fail)
  all_goals go_ret
  all_goals refine⟨zC ?_,(Zb.alloc Zr _).alloc (by simp) _⟩
  all_goals go_light
  all_goals simp_all [zZ,eB,tl_nil']
 all_goals omega
set_option maxHeartbeats 4000000 in
theorem rightStmt_named (k:Int) (ic:Bool) (hk:k=2∨k=3) (b:Bool) (hb:vt name=b):
 Calls Tryz.prog 103 #[.agg #[.int .i64 k,.int .i64 ty,.string name,.slice A1 m1 c1,.slice A2 m2 c2,.slice A3 m3 c3]] w fun e w'=>e=.returned (.bool (zZ k ty name m1 m2 m3 ic))∧Below w.heap.size w w':=by
 have HB:=hid hb;clear hb;cases b
 all_goals rcases hk with rfl | rfl
 all_goals
  go_enter Tryz.func103,Tryz.ntmps103;go_wp2_with (go_at_call 87;(with_reducible refine(ud name _ HB.out _).mono ?_);rintro e w1 ⟨rfl,hb1⟩;obtain⟨hc1,hf1⟩:=zu hb1)
  all_goals go_ret
  all_goals refine⟨zC ?_,((Zb.alloc Zr _).alloc (by simp) _).trans (hb1.mono (by simp;omega))⟩
  all_goals have HB':=HB.out
  all_goals go_light
  all_goals simp_all [zZ]
 all_goals omega
set_option maxHeartbeats 4000000 in
theorem rightStmt_let (ic:Bool) (b bt:Bool) (hb:vt name=b) (hbt:yw ty=bt):
 Calls Tryz.prog 103 #[.agg #[.int .i64 1,.int .i64 ty,.string name,.slice A1 m1 c1,.slice A2 m2 c2,.slice A3 m3 c3]] w fun e w'=>e=.returned (.bool (zZ 1 ty name m1 m2 m3 ic))∧Below w.heap.size w w':=by
 have HB:=hid hb;have HBT:=hid hbt;clear hb hbt;cases bt
 · go_enter Tryz.func103,Tryz.ntmps103
   go_wp2_with (go_at_call 88;(with_reducible refine(jk ty _ HBT.out _).mono ?_);rintro e w1 ⟨rfl,rfl⟩);go_ret;refine⟨zC ?_,(Zb.alloc Zr _).alloc (by simp) _⟩;have HB':=HBT.out
   go_light
   simp_all [zZ]
 · cases b
   all_goals
    go_enter Tryz.func103,Tryz.ntmps103
    go_wp2_with (first
     | (go_at_call 88;(with_reducible refine(jk ty _ HBT.out _).mono ?_);rintro e w1 ⟨rfl,rfl⟩)
     | (go_at_call 87;(with_reducible refine(ud name _ HB.out _).mono ?_);rintro e w1 ⟨rfl,hb1⟩;obtain⟨hc1,hf1⟩:=zu hb1))
    all_goals go_ret
    all_goals refine⟨zC ?_,((Zb.alloc Zr _).alloc (by simp) _).trans (hb1.mono (by simp;omega))⟩
    all_goals have HB':=HB.out
    all_goals have HBT':=HBT.out
    all_goals go_light
    all_goals simp_all [zZ]
   all_goals omega
theorem rightStmt_other (k:Int) (ic:Bool) (hk:k<1∨10<k):
 Calls Tryz.prog 103 #[.agg #[.int .i64 k,.int .i64 ty,.string name,.slice A1 m1 c1,.slice A2 m2 c2,.slice A3 m3 c3]] w fun e w'=>e=.returned (.bool (zZ k ty name m1 m2 m3 ic))∧Below w.heap.size w w':=by
 have n1:(k == 1)=false:=by simp;omega
 have n2:(k == 2)=false:=by simp;omega
 have n3:(k == 3)=false:=by simp;omega
 have n4:(k == 4)=false:=by simp;omega
 have n5:(k == 5)=false:=by simp;omega
 have n6:(k == 6)=false:=by simp;omega
 have n7:(k == 7)=false:=by simp;omega
 have n8:(k == 8)=false:=by simp;omega
 have n9:(k == 9)=false:=by simp;omega
 have n10:(k == 10)=false:=by simp;omega
 have hf:Hid (zZ k ty name m1 m2 m3 ic=false):=by
  unfold Hid zZ;rw[if_neg (by omega),if_neg (by omega),if_neg (by omega),if_neg (by omega),if_neg (by omega),if_neg (by omega),if_neg (by omega),if_neg (by omega)]
 clear hk;go_enter Tryz.func103,Tryz.ntmps103;go_wp2_with (fail);go_ret;exact⟨zC hf.out.symm,(Zb.alloc Zr _).alloc (by simp) _⟩
end
section
variable (ty:Int) (name:ByteArray) (A1 A2 A3:Option Addr) (m1 m2 m3 c1 c2 c3:Nat) (w:World)
set_option maxHeartbeats 4000000 in
theorem rightStmt_do (B:Nat) (args:List Ex) (hA:qw B w (.slice A1 m1 c1) args) (hm:args.length=m1):
 Calls Tryz.prog 103 #[.agg #[.int .i64 10,.int .i64 ty,.string name,.slice A1 m1 c1,.slice A2 m2 c2,.slice A3 m3 c3]] w fun e w'=>e=.returned (.bool (zZ 10 ty name m1 m2 m3 (yx args)))∧Below w.heap.size w w':=by
 rcases args with _ | ⟨⟨k',op,n,nm,aa⟩,r⟩
 · subst hm
   go_enter Tryz.func103,Tryz.ntmps103;go_wp2_with (fail)
   all_goals go_ret
   all_goals refine⟨zC ?_,(Zb.alloc Zr _).alloc (by simp) _⟩
   all_goals go_light
   all_goals simp_all [zZ]
 · obtain⟨g,o,v,rfl,hg,h0,_⟩:=hA.cells (i:=0) rfl
   have h0':w.cell? ⟨g,o,none⟩=some (.int .i64 k'):=by simpa using h0
   have hz:=block_lt_of_cell h0';have hmp:0<m1:=by rw[←hm];simp
   clear h0 hm hA;go_enter Tryz.func103,Tryz.ntmps103;go_wp2_with (fail)
   all_goals go_ret
   all_goals refine⟨zC ?_,(Zb.alloc Zr _).alloc (by simp) _⟩
   all_goals go_light
   all_goals simp_all [zZ,eB,tl_nil',yx,Ex.kind]
   all_goals first
    | (intros;omega)
    | (have e1:m1=1:=by omega
       rw[Bool.eq_iff_iff];simp[e1]
       exact⟨fun h=>decide_eq_true h,fun h=>of_decide_eq_true h⟩)
theorem rightStmt_any (k:Int) (B:Nat) (args:List Ex) (hA:qw B w (.slice A1 m1 c1) args) (hm:args.length=m1):
 Calls Tryz.prog 103 #[.agg #[.int .i64 k,.int .i64 ty,.string name,.slice A1 m1 c1,.slice A2 m2 c2,.slice A3 m3 c3]] w fun e w'=>e=.returned (.bool (zZ k ty name m1 m2 m3 (yx args)))∧Below w.heap.size w w':=by
 by_cases h1:k=4∨k=5∨k=6∨k=7∨k=8∨k=9
 · exact rightStmt_plain ty name A1 A2 A3 m1 m2 m3 c1 c2 c3 w k _ h1
 by_cases h2:k=2∨k=3
 · exact rightStmt_named ty name A1 A2 A3 m1 m2 m3 c1 c2 c3 w k _ h2 _ rfl
 by_cases h3:k=1
 · subst h3
   exact rightStmt_let ty name A1 A2 A3 m1 m2 m3 c1 c2 c3 w _ _ _ rfl rfl
 by_cases h4:k=10
 · subst h4
   exact rightStmt_do ty name A1 A2 A3 m1 m2 m3 c1 c2 c3 w B args hA hm
 · exact rightStmt_other ty name A1 A2 A3 m1 m2 m3 c1 c2 c3 w k _ (by omega)
end
end Go.Proofs.YtfghofifjnbicaaGreatDoor
