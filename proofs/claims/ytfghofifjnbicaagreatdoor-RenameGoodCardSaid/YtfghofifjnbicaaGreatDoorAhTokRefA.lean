import Derived.Test.YtfghofifjnbicaaGreatDoorAhZed
import Derived.Test.YtfghofifjnbicaaGreatDoorAhTokLeaf
import Derived.Test.YtfghofifjnbicaaGreatDoorProg
import Derived.Test.YtfghofifjnbicaaGreatDoorAhTokMath
import Derived.WalkSpells
import Derived.WalkLawsBesides
import Derived.Outline
import Derived.Below
import Derived.Laws.RangeAny
import Derived.LoopTactic
import Derived.Lib.Walk
import Derived.Deep.Light
import Derived.Lib.Hide
import Derived.IntWalk
import Derived.Test.YtfghofifjnbicaaGreatDoorShelf
set_option linter.unusedSimpArgs false
set_option linter.unusedVariables false
set_option maxRecDepth 100000
/- The contracts of the document's answer for the layer token: names and numbers. -/
namespace Go.Proofs.YtfghofifjnbicaaGreatDoor
open Lib (hid)
open Go.RowKit
theorem qi (c:Int) (b:Bool) (h:yJ c=b) (w:World):Calls Tryz.prog 33 #[.int .u8 c] w fun e w'=>e=.returned (.bool b)∧w=w':=h ▸ rletter_any c w
theorem rdigit_is (c:Int) (b:Bool) (h:yu c=b) (w:World):Calls Tryz.prog 34 #[.int .u8 c] w fun e w'=>e=.returned (.bool b)∧w=w':=h ▸ rdigit_any c w
theorem jq (s:ByteArray) (b:Bool) (h:kR s.data.toList=b) (w:World):Calls Tryz.prog 35 #[.string s] w fun e w'=>e=.returned (.bool b)∧w=w':=h ▸ rword_any s w
theorem all_alls {p:UInt8→Bool} {s:ByteArray} (h:∀ (j:Nat) b,j<s.size→s.data.toList[j]? =some b→p b=true):s.data.toList.all p=true:=
 List.all_eq_true.2 fun b hb=>by
  obtain⟨j,hj⟩:=List.mem_iff_getElem?.1 hb;exact h j b (by have:=(List.getElem?_eq_some_iff.1 hj).1;rwa [←Lib.size_eq]at this) hj
theorem all_none {p:UInt8→Bool} {s:ByteArray} {k:Nat} (hk:k<s.size) (h:p s[k]=false):s.data.toList.all p=false:=by
 rw[Bool.eq_false_iff];intro ha;rw[List.all_eq_true.1 ha s[k] (List.mem_iff_getElem?.2 ⟨k,xp s k hk⟩)]at h;cases h
theorem all_step' {p:UInt8→Bool} {s:ByteArray} {pos:Nat} (hp:pos<s.size) (h:∀ (j:Nat) b,j<pos→s.data.toList[j]? =some b→p b=true) (ha:p s[pos]=true):
 ∀ (j:Nat) b,j<pos+1→s.data.toList[j]? =some b→p b=true:=by
 intro j b hj hb;by_cases e:j=pos
 · subst e
   rw[xp s j hp]at hb;injection hb with hb;exact hb ▸ ha
 · exact h j b (by omega) hb
theorem rname_nil (s:ByteArray) (w:World) (h0:s.size=0):Calls Tryz.prog 36 #[.string s] w fun e w'=>e=.returned (.bool false)∧w=w':=by
 have hl:=ky s h0;have he:s.toList.isEmpty=true:=by rw[Lib.toList_data,hl];rfl
 have he2:s.toList=[]:=by rw[Lib.toList_data,hl]
 clear hl h0;go_enter Tryz.func36,Tryz.ntmps36;go_wp2;go_ret;exact⟨rfl,rfl⟩
theorem rname_long (s:ByteArray) (w:World) (h20:20<s.size):Calls Tryz.prog 36 #[.string s] w fun e w'=>e=.returned (.bool false)∧w=w':=by
 have hne:=jG s (by omega);have he:s.toList.isEmpty=false:=by rw[Lib.toList_data];simpa using hne
 have hd:decide ((20 :Int)<s.size)=true:=by simp;omega
 clear hne h20;go_enter Tryz.func36,Tryz.ntmps36;go_wp2;go_ret;exact⟨rfl,rfl⟩
theorem rname_head (s:ByteArray) (w:World) (hp:0<s.size) (h20:s.size≤20) (b1 b2:Bool) (h1:yJ (s[0].toNat:Int)=b1) (h2:kR s.data.toList=b2) (hb:b1=false∨b2=true):
 Calls Tryz.prog 36 #[.string s] w fun e w'=>e=.returned (.bool false)∧w=w':=by
 have hne:=jG s hp;have he:s.toList.isEmpty=false:=by rw[Lib.toList_data];simpa using hne
 have hd:decide ((20 :Int)<s.size)=false:=by simp;omega
 have H1:=hid h1;have H2:=hid h2;clear hne h1 h2;cases b1 <;> cases b2 <;> simp at hb
 all_goals
  go_enter Tryz.func36,Tryz.ntmps36;go_wp2_with (first | (go_at_call 33;(with_reducible refine(qi _ _ H1.out _).mono ?_);rintro e w' ⟨rfl,rfl⟩) | (go_at_call 35;(with_reducible refine(jq _ _ H2.out _).mono ?_);rintro e w' ⟨rfl,rfl⟩));go_ret;exact⟨rfl,rfl⟩
theorem rname_loop (s:ByteArray) (w:World) (hp:0<s.size) (h20:s.size≤20) (h1:yJ (s[0].toNat:Int)=true) (h2:kR s.data.toList=false) (b:Bool) (hb:s.data.toList.all qH=b):
 Calls Tryz.prog 36 #[.string s] w fun e w'=>e=.returned (.bool b)∧w=w':=by
 have hne:=jG s hp;have he:s.toList.isEmpty=false:=by rw[Lib.toList_data];simpa using hne
 have hd:decide ((20 :Int)<s.size)=false:=by simp;omega
 have H1:=hid h1;have H2:=hid h2;have HB:=hid hb;clear hne h1 h2 hb;go_enter Tryz.func36,Tryz.ntmps36;go_wp2_with (first | (go_at_call 33;(with_reducible refine(qi _ _ H1.out _).mono ?_);rintro e w' ⟨rfl,rfl⟩) | (go_at_call 35;(with_reducible refine(jq _ _ H2.out _).mono ?_);rintro e w' ⟨rfl,rfl⟩))
 go_loop [3] (fun i=>∃ k:Nat,k≤s.size∧i=.int .i64 k∧∀ (j:Nat) b,j<k→s.data.toList[j]? =some b→qH b=true) (fun i=>s.size-(intOf i).toNat)
 case atStart=>exact⟨0,Nat.zero_le _,rfl,fun j b hj=>absurd hj (by omega)⟩
 case round=>
  obtain⟨k,hk,rfl,hall⟩:=hrel;have HA:=hid hall;clear hall;by_cases hlt:k<s.size
  · obtain⟨b1,hb1⟩:∃ b,yJ (s[k].toNat:Int)=b:=⟨_,rfl⟩
    obtain⟨b2,hb2⟩:∃ b,yu (s[k].toNat:Int)=b:=⟨_,rfl⟩
    have HE:Hid (qH s[k]=(b1 || b2)):=by unfold Hid qH;rw[←hb1,←hb2,vU,vV]
    have HB1:=hid hb1;have HB2:=hid hb2;clear hb1 hb2;cases b1 <;> cases b2
    all_goals
     go_wp2_with (first | (go_at_call 33;(with_reducible refine(qi _ _ HB1.out _).mono ?_);rintro e w' ⟨rfl,rfl⟩) | (go_at_call 34;(with_reducible refine(rdigit_is _ _ HB2.out _).mono ?_);rintro e w' ⟨rfl,rfl⟩))
    · go_ret
      exact⟨zC ((all_none hlt HE.out).symm.trans HB.out),rfl⟩
    all_goals
     go_round
     case rel=>exact⟨k+1,by omega,by go_num,all_step' hlt HA.out HE.out⟩
     case measure=>simp[intOf];omega
  · have e:k=s.size:=by omega
    subst e;go_wp2;go_ret;exact⟨zC ((all_alls HA.out).symm.trans HB.out),rfl⟩
theorem rname_any (s:ByteArray) (w:World):Calls Tryz.prog 36 #[.string s] w fun e w'=>e=.returned (.bool (jl s.data.toList))∧w=w':=by
 by_cases h0:s.size=0
 · rw[ky s h0,nameB_nil]
   exact rname_nil s w h0
 by_cases h20:20<s.size
 · rw[nameB_long _ (by rw[←Lib.size_eq];exact h20)]
   exact rname_long s w h20
 · have hp:0<s.size:=by omega
   have hb:jl s.data.toList=(yJ (s[0].toNat:Int) && s.data.toList.all qH && !kR s.data.toList):=by
    unfold jl;rw[head_eq s hp,←vU];have e1:s.data.toList.isEmpty=false:=by simpa using jG s hp
    have e2:s.data.toList.length≤20:=by rw[←Lib.size_eq];omega
    rw[e1,decide_eq_true e2];rfl
   rw[hb];cases h1:yJ (s[0].toNat:Int) with
   | false=>exact rname_head s w hp (by omega) _ _ h1 rfl (.inl rfl)
   | true=>
     cases h2:kR s.data.toList with
     | true=>exact(rname_head s w hp (by omega) _ _ h1 h2 (.inr rfl)).mono fun e w' ⟨h,k⟩=>⟨by simp[h],k⟩
     | false=>exact(rname_loop s w hp (by omega) h1 h2 _ rfl).mono fun e w' ⟨h,k⟩=>⟨by simp[h],k⟩
theorem rname_is (s:ByteArray) (b:Bool) (h:jl s.data.toList=b) (w:World):Calls Tryz.prog 36 #[.string s] w fun e w'=>e=.returned (.bool b)∧w=w':=h ▸ rname_any s w
theorem vc {s:ByteArray} {k:Nat} (h:k<s.size):s.data.toList.take (k+1)=s.data.toList.take k++[s[k]]:=by
 rw[List.take_add_one,xp s k h];rfl
theorem uc (l:List UInt8) (k:Nat):jd 0 (l.take k)≤jd 0 l:=by
 have e:jd 0 l=jd (jd 0 (l.take k)) (l.drop k):=by rw[←decV_app,List.take_append_drop]
 rw[e];exact decV_ge _ _
theorem y9 (s:ByteArray) (k:Nat) (h:k<s.size) (c:Int) (hc:(s[k].toNat:Int)=c) (w:World):(Instr.index 9 (.string s) (.int .i64 k)).run Tryz.prog w=.ok (.int .u8 c) w:=by
 subst hc;have hn:(0 :Int)≤(k:Int):=by omega
 simp[Instr.index,run_underlying Tryz.underlying9,asIntOf,go_sem,h]
theorem byte_index0 (s:ByteArray) (h:0<s.size) (c:Int) (hc:(s[0].toNat:Int)=c) (w:World):(Instr.index 9 (.string s) (.int .i64 0)).run Tryz.prog w=.ok (.int .u8 c) w:=y9 s 0 h c hc w
def ValPost (l:List UInt8) (w:World) (e:Ending) (w':World):Prop:=∃ r,e=.returned (.int .i64 r)∧decide (0≤r)=jm l∧w=w'
theorem dig_at {s:ByteArray} {k:Nat} (h:k<s.size) (hd:s.data.toList.all kO=true):48≤s[k].toNat∧s[k].toNat≤57:=by
 have:=List.all_eq_true.1 hd s[k] (List.mem_iff_getElem?.2 ⟨k,xp s k h⟩);simpa[kO] using this
theorem numB_over (s:ByteArray) (k m:Nat) (h:k<s.size) (hm:m=jd 0 (s.data.toList.take k)) (c:Int) (hc:(s[k].toNat:Int)=c) (h48:48≤c) (hov:(9223372036854775807-(c-48)) / 10<(m:Int)):jm s.data.toList=false:=by
 have h1:=uc s.data.toList (k+1);rw[vc h,vT,←hm]at h1;have h2:¬ jd 0 s.data.toList<9223372036854775808:=by omega
 unfold jm;rw[decide_eq_false h2,Bool.and_false]
theorem numB_one (s:ByteArray) (h0:0<s.size) (hd:s.data.toList.all kO=true) (hm:jd 0 s.data.toList<9223372036854775808):jm s.data.toList=(decide (s.size=1) || decide (s[0].toNat≠48)):=by
 unfold jm;have e1:s.data.toList.isEmpty=false:=by simpa using jG s h0
 rw[hd,decide_eq_true hm,e1];have hh:=head_eq s h0;have hz:s.size=s.data.toList.length:=rfl;rw[←hh,hz];generalize s.data.toList=l at *;cases l with
 | nil=>simp at e1
 | cons a t=>
   simp only[List.headD_cons,List.length_cons];rw[Bool.eq_iff_iff];cases t with
   | nil=>
     simp;by_cases ha:a=48
     · exact .inl ha
     · exact .inr ha
   | cons b r=>
     simp[←UInt8.toNat_inj];exact decide_eq_true_iff.symm
theorem rvalue_any (s:ByteArray) (w:World) (hp:0<s.size) (hs:s.size≤281474976710656) (hd:s.data.toList.all kO=true):
 Calls Tryz.prog 43 #[.string s] w (ValPost s.data.toList w):=by
 have hne:=jG s hp;have he:s.toList.isEmpty=false:=by rw[Lib.toList_data];simpa using hne
 have HD:=hid hd;clear hne hd;go_enter Tryz.func43,Tryz.ntmps43;go_wp2
 go_loop [3,4,5] (fun n i _=>∃ (k m:Nat),k≤s.size∧i=.int .i64 k∧n=.int .i64 m∧m=jd 0 (s.data.toList.take k)∧m<9223372036854775808) (fun _ i _=>s.size-(intOf i).toNat)
 case atStart=>exact⟨0,0,Nat.zero_le _,rfl,rfl,by rw[List.take_zero,uZ],by omega⟩
 case round=>
  obtain⟨k,m,hk,rfl,rfl,hm,hbig⟩:=hrel;have HM:=hid hm;clear hm;by_cases hlt:k<s.size
  · obtain⟨c,hc⟩:∃ c:Int,(s[k].toNat:Int)=c:=⟨_,rfl⟩
    have hix:=y9 s k hlt c hc;have HC:=hid hc;have hdk:=dig_at hlt HD.out;have h48:48≤c:=by omega
    have h57:c≤57:=by omega
    clear hc hdk;by_cases hov:(9223372036854775807-(c-48)) / 10<(m:Int)
    · go_wp2
      go_ret;exact⟨-1,rfl,by rw[numB_over s k m hlt HM.out c HC.out h48 hov];rfl,rfl⟩
    · go_wp2
      have HC2:=HC.out;have hmc:((m * 10+(s[k].toNat-48):Nat):Int)=(m:Int) * 10+(c-48):=by omega
      go_round
      case rel=>exact⟨k+1,m * 10+(s[k].toNat-48),by omega,by go_num,by rw[hmc],by rw[vc hlt,vT,←HM.out],by omega⟩
      case measure=>simp[intOf];omega
  · have e:k=s.size:=by omega
    subst e
    have HM2:Hid (m=jd 0 s.data.toList):=by
     unfold Hid;rw[HM.out,List.take_of_length_le (by rw[←Lib.size_eq];exact Nat.le_refl _)]
    obtain⟨c,hc⟩:∃ c:Int,(s[0].toNat:Int)=c:=⟨_,rfl⟩
    have hix:=byte_index0 s hp c hc
    have HN:Hid (jm s.data.toList=(decide (s.size=1) || decide (c≠48))):=by
     unfold Hid;rw[numB_one s hp HD.out (by rw[←HM2.out];exact hbig)];congr 1;rw[Bool.eq_iff_iff];simp;omega
    clear hc;by_cases h1:1<s.size
    · by_cases h2:c=48
      · subst h2
        go_wp2;go_ret;refine⟨-1,rfl,?_,rfl⟩;rw[HN.out,decide_eq_false (show ¬ s.size=1 by omega)];rfl
      · go_wp2
        go_ret;refine⟨m,rfl,?_,rfl⟩;rw[HN.out,decide_eq_true h2,Bool.or_true];simp
    · go_wp2
      go_ret;refine⟨m,rfl,?_,rfl⟩;rw[HN.out,decide_eq_true (show s.size=1 by omega),Bool.true_or];simp
theorem numB_digits {s:ByteArray} (h:s.data.toList.all kO=false):jm s.data.toList=false:=by
 unfold jm;rw[h];simp
theorem rnumber_all (s:ByteArray) (w:World) (hp:0<s.size) (hs:s.size≤281474976710656) (b:Bool) (hb:jm s.data.toList=b):
 Calls Tryz.prog 37 #[.string s] w fun e w'=>e=.returned (.bool b)∧w=w':=by
 have HB:=hid hb;clear hb;go_enter Tryz.func37,Tryz.ntmps37;go_wp2
 go_loop [3] (fun i=>∃ k:Nat,k≤s.size∧i=.int .i64 k∧∀ (j:Nat) b,j<k→s.data.toList[j]? =some b→kO b=true) (fun i=>s.size-(intOf i).toNat)
 case atStart=>exact⟨0,Nat.zero_le _,rfl,fun j b hj=>absurd hj (by omega)⟩
 case round=>
  obtain⟨k,hk,rfl,hall⟩:=hrel;have HA:=hid hall;clear hall;by_cases hlt:k<s.size
  · obtain⟨b1,hb1⟩:∃ b,yu (s[k].toNat:Int)=b:=⟨_,rfl⟩
    have HE:Hid (kO s[k]=b1):=by unfold Hid;rw[←hb1,vV]
    have HB1:=hid hb1;clear hb1;cases b1
    all_goals
     go_wp2_with (go_at_call 34;(with_reducible refine(rdigit_is _ _ HB1.out _).mono ?_);rintro e w' ⟨rfl,rfl⟩)
    · go_ret
      exact⟨zC ((numB_digits (all_none hlt HE.out)).symm.trans HB.out),rfl⟩
    · go_round
      case rel=>exact⟨k+1,by omega,by go_num,all_step' hlt HA.out HE.out⟩
      case measure=>simp[intOf];omega
  · have e:k=s.size:=by omega
    subst e;have HD:=hid (all_alls HA.out);go_wp2_with (go_at_call 43;(with_reducible refine(rvalue_any _ _ hp hs HD.out).mono ?_);rintro e w' ⟨r,rfl,hr,rfl⟩;have HR:=hid hr;clear hr);go_ret;exact⟨zC (HR.out.trans HB.out),rfl⟩
def Tab (w:World):Prop:=∀ k:Nat,k≤28→w.cell? ⟨1,k * 2,none⟩=some (.string (sgn k))∧w.cell? ⟨1,k * 2+1,none⟩=some (.int .i64 (lvl k))
theorem Tab.size {w:World} (h:Tab w):1<w.heap.size:=block_lt_of_cell (h 0 (by omega)).1
theorem rowOf_in (k:Nat) (h1:1≤k) (h2:k≤28) (w:World) (ht:Tab w):
 Calls Tryz.prog 128 #[.int .i64 (k:Int)] w fun e w'=>e=.returned (.agg #[.string (sgn k),.int .i64 (lvl k)])∧Below w.heap.size w w':=by
 have hz:=ht.size;obtain⟨c0,c1⟩:=ht k h2;clear ht;go_enter Tryz.func128,Tryz.ntmps128;go_wp2;exact bodyPost_ret (v:=.agg #[.string (sgn k),.int .i64 (lvl k)]) (by simp[results,Tryz.results128,go_sem]) rfl ⟨rfl,Zb.alloc Zr _⟩
theorem rowOf_out (op:Int) (h:op<1∨28<op) (w:World):
 Calls Tryz.prog 128 #[.int .i64 op] w fun e w'=>e=.returned (.agg #[.string ⟨#[]⟩,.int .i64 0])∧Below w.heap.size w w':=by
 rcases h with h | h
 all_goals
  go_enter Tryz.func128,Tryz.ntmps128;go_wp2
  all_goals exact bodyPost_ret (v:=.agg #[.string ⟨#[]⟩,.int .i64 0]) (by simp[results,Tryz.results128,go_sem]) rfl ⟨rfl,Zb.alloc Zr _⟩
theorem rowOf_any (op:Int) (w:World) (ht:Tab w):
 Calls Tryz.prog 128 #[.int .i64 op] w fun e w'=>e=.returned (.agg #[.string (kG op),.int .i64 (kS op)])∧Below w.heap.size w w':=by
 by_cases h:1≤op∧op≤28
 · obtain⟨k,rfl⟩:=Int.eq_ofNat_of_zero_le (show 0≤op by omega)
   have e1:kG (k:Int)=sgn k:=by unfold kG;rw[if_pos h];rfl
   have e2:kS (k:Int)=lvl k:=by unfold kS;rw[if_pos h];rfl
   rw[e1,e2];exact rowOf_in k (by omega) (by omega) w ht
 · have e1:kG op=⟨#[]⟩:=by unfold kG;rw[if_neg h]
   have e2:kS op=0:=by unfold kS;rw[if_neg h]
   rw[e1,e2];exact rowOf_out op (by omega) w
theorem level_any (op:Int) (w:World) (ht:Tab w):
 Calls Tryz.prog 120 #[.int .i64 op] w fun e w'=>e=.returned (.int .i64 (kS op))∧Below w.heap.size w w':=by
 have hf:∀ (s:ByteArray) (l:Int) (w:World),(Instr.field 176 (.agg #[.string s,.int .i64 l]) 1).run Tryz.prog w=.ok (.int .i64 l) w:=fun _ _ _=>by kernel_rfl
 go_enter Tryz.func120,Tryz.ntmps120;go_wp2_with (go_at_call 128;refine(rowOf_any _ _ ht).mono ?_;rintro e w' ⟨rfl,hg⟩);go_ret;exact⟨rfl,hg⟩
theorem signs_any (w:World):Calls Tryz.prog 127 #[] w fun e w'=>∃ C:Array Value,(∀ j:Nat,j<28→C[j]? =some (.string (sgn (j+1))))∧e=.returned (.slice (some ⟨w.heap.size,0,none⟩) 28 28)∧w'=w.alloc (.cells C 9):=by
 go_enter Tryz.func127,Tryz.ntmps127;go_wp2;go_ret;refine⟨_,?_,rfl,rfl⟩;intro j hj;obtain rfl | rfl | rfl | rfl | rfl | rfl | rfl | rfl | rfl | rfl | rfl | rfl | rfl | rfl | rfl | rfl | rfl | rfl | rfl | rfl | rfl | rfl | rfl | rfl | rfl | rfl | rfl | rfl:j=0∨j=1∨j=2∨j=3∨j=4∨j=5∨j=6∨j=7∨j=8∨j=9∨j=10∨j=11∨j=12∨j=13∨j=14∨j=15∨j=16∨j=17∨j=18∨j=19∨j=20∨j=21∨j=22∨j=23∨j=24∨j=25∨j=26∨j=27:=by omega
 all_goals rfl
theorem rsign_in (k:Nat) (h:k<28) (w:World):Calls Tryz.prog 118 #[.int .i64 ((k:Int)+1)] w fun e w'=>e=.returned (.string (sgn (k+1)))∧Below w.heap.size w w':=by
 go_enter Tryz.func118,Tryz.ntmps118;go_wp2_with (go_at_call 127;refine(signs_any _).mono ?_;rintro e w' ⟨C,hC,rfl,rfl⟩;have hc:=hC k h;clear hC);go_ret;exact⟨rfl,Zb.alloc Zr _⟩
theorem rsign_out (op:Int) (h:op<1∨28<op) (w:World):Calls Tryz.prog 118 #[.int .i64 op] w fun e w'=>e=.returned (.string ⟨#[]⟩)∧Below w.heap.size w w':=by
 rcases h with h | h
 all_goals
  go_enter Tryz.func118,Tryz.ntmps118;go_wp2
  all_goals go_ret
  all_goals exact⟨rfl,Below.refl _ _⟩
theorem rsign_any (op:Int) (w:World):Calls Tryz.prog 118 #[.int .i64 op] w fun e w'=>e=.returned (.string (kG op))∧Below w.heap.size w w':=by
 by_cases h:1≤op∧op≤28
 · obtain⟨k,hk⟩:=Int.eq_ofNat_of_zero_le (show 0≤op-1 by omega)
   obtain rfl:op=(k:Int)+1:=by omega
   have e1:kG ((k:Int)+1)=sgn (k+1):=by unfold kG;rw[if_pos h];rfl
   rw[e1];exact rsign_in k (by omega) w
 · have e1:kG op=⟨#[]⟩:=by unfold kG;rw[if_neg h]
   rw[e1];exact rsign_out op (by omega) w
theorem rlevel_in (op:Int) (h:1≤op∧op≤19) (w:World):Calls Tryz.prog 86 #[.int .i64 op] w fun e w'=>e=.returned (.int .i64 (kS op))∧w=w':=by
 obtain rfl | rfl | rfl | rfl | rfl | rfl | rfl | rfl | rfl | rfl | rfl | rfl | rfl | rfl | rfl | rfl | rfl | rfl | rfl:op=1∨op=2∨op=3∨op=4∨op=5∨op=6∨op=7∨op=8∨op=9∨op=10∨op=11∨op=12∨op=13∨op=14∨op=15∨op=16∨op=17∨op=18∨op=19:=by omega
 all_goals clear h
 all_goals
  go_enter Tryz.func86,Tryz.ntmps86;go_wp2;go_ret;exact⟨rfl,rfl⟩
theorem lvlOf_out (op:Int) (h:op<1∨19<op):kS op=0:=by
 unfold kS;split
 · rename_i h'
   obtain rfl | rfl | rfl | rfl | rfl | rfl | rfl | rfl | rfl:op=20∨op=21∨op=22∨op=23∨op=24∨op=25∨op=26∨op=27∨op=28:=by omega
   all_goals rfl
 · rfl
theorem rlevel_out (op:Int) (h:op<1∨19<op) (w:World):Calls Tryz.prog 86 #[.int .i64 op] w fun e w'=>e=.returned (.int .i64 0)∧w=w':=by
 have n1:(op == 1)=false:=by simp;omega
 have n2:(op == 2)=false:=by simp;omega
 have n3:(op == 3)=false:=by simp;omega
 have n4:(op == 4)=false:=by simp;omega
 have n5:(op == 5)=false:=by simp;omega
 have n6:(op == 6)=false:=by simp;omega
 have n7:(op == 7)=false:=by simp;omega
 have n8:(op == 8)=false:=by simp;omega
 have n9:(op == 9)=false:=by simp;omega
 have n10:(op == 10)=false:=by simp;omega
 have n11:(op == 11)=false:=by simp;omega
 have n12:(op == 12)=false:=by simp;omega
 have n13:(op == 13)=false:=by simp;omega
 have n14:(op == 14)=false:=by simp;omega
 have n15:(op == 15)=false:=by simp;omega
 have n16:(op == 16)=false:=by simp;omega
 have n17:(op == 17)=false:=by simp;omega
 have n18:(op == 18)=false:=by simp;omega
 have n19:(op == 19)=false:=by simp;omega
 clear h;go_enter Tryz.func86,Tryz.ntmps86;go_wp2;go_ret;exact⟨rfl,rfl⟩
theorem rlevel_any (op:Int) (w:World):Calls Tryz.prog 86 #[.int .i64 op] w fun e w'=>e=.returned (.int .i64 (kS op))∧w=w':=by
 by_cases h:1≤op∧op≤19
 · exact rlevel_in op h w
 · rw[lvlOf_out op (by omega)]
   exact rlevel_out op (by omega) w
structure TreeTab (B:Nat) (w:World):Prop where
 lt:1<B
 rows:Tab w
 pow:∀ w',Below B w w'→Lib.TabIs Tryz.prog w' "internal/strconv.uint64pow10" .u64 Lib.pow10Tab
theorem TreeTab.below {B:Nat} {w w':World} (h:TreeTab B w) (hb:Below B w w'):TreeTab B w' where
 lt:=h.lt
 rows:=fun k hk=>⟨(hb.cell (p:=⟨1,k * 2,none⟩) h.lt).trans (h.rows k hk).1,(hb.cell (p:=⟨1,k * 2+1,none⟩) h.lt).trans (h.rows k hk).2⟩
 pow:=fun w2 h2=>h.pow w2 (hb.trans h2)
theorem TreeTab.mono {B B':Nat} {w:World} (h:TreeTab B w) (hB:B≤B'):TreeTab B' w where
 lt:=Nat.lt_of_lt_of_le h.lt hB
 rows:=h.rows
 pow:=fun w2 h2=>h.pow w2 (h2.mono hB)
theorem ud (s:ByteArray) (b:Bool) (h:vt s=b) (w:World):Calls Tryz.prog 87 #[.string s] w fun e w'=>e=.returned (.bool b)∧Below w.heap.size w w':=name_is s b h w
theorem qE (s:ByteArray) (b:Bool) (h:vt s=b) (w:World):Calls Tryz.prog 36 #[.string s] w fun e w'=>e=.returned (.bool b)∧w=w':=rname_is s b h w
theorem zu {W w1:World} (hb:Below W.heap.size W w1):(∀ b o,b<W.heap.size→w1.cell? ⟨b,o,none⟩=W.cell? ⟨b,o,none⟩)∧(∀ b o,b<W.heap.size→w1.frozen? ⟨b,o,none⟩=W.frozen? ⟨b,o,none⟩):=
 ⟨fun b o h=>hb.cell (p:=⟨b,o,none⟩) h,fun b o h=>hb.frozen (p:=⟨b,o,none⟩) h⟩
def CellB (B:Nat) (w:World) (g o:Nat) (u:Value):Prop:=g<B∧w.cell? ⟨g,o,none⟩=some u
def xF (v:Value) (n:Nat) (F:Nat→Nat→Prop):Prop:=
 ∃ (A:Option Addr) (cap:Nat),v=.slice A n cap∧n≤281474976710656∧(0<n→∃ g o,A=some ⟨g,o,none⟩∧F g o)
def vw (n:Int):Prop:=-9223372036854775808≤n∧n≤9223372036854775807
mutual
def RdE (B:Nat) (w:World):Ex→Nat→Nat→Prop
 | .mk k op n name args,g,o=>CellB B w g o (.int .i64 k)∧CellB B w g (o+1) (.int .i64 op)∧CellB B w g (o+2) (.int .i64 n)∧CellB B w g (o+3) (.string name)∧
     vw n∧∃ v,CellB B w g (o+4) v∧xF v args.length (jM B w args)
def jM (B:Nat) (w:World):List Ex→Nat→Nat→Prop
 | [],_,_=>True
 | e :: r,g,o=>RdE B w e g o∧jM B w r g (o+5)
end
mutual
def RdS (B:Nat) (w:World):St→Nat→Nat→Prop
 | .mk k ty name args thn els,g,o=>CellB B w g o (.int .i64 k)∧CellB B w g (o+1) (.int .i64 ty)∧CellB B w g (o+2) (.string name)∧
     (∃ v,CellB B w g (o+3) v∧xF v args.length (jM B w args))∧(∃ v,CellB B w g (o+4) v∧xF v thn.length (jf B w thn))∧(∃ v,CellB B w g (o+5) v∧xF v els.length (jf B w els))
def jf (B:Nat) (w:World):List St→Nat→Nat→Prop
 | [],_,_=>True
 | s :: r,g,o=>RdS B w s g o∧jf B w r g (o+6)
end
theorem CellB.below {B B':Nat} {w w':World} (hb:Below B w w') (hB:B≤B') {g o:Nat} {u:Value} (h:CellB B w g o u):CellB B' w' g o u:=⟨Nat.lt_of_lt_of_le h.1 hB,(hb.cell (p:=⟨g,o,none⟩) h.1).trans h.2⟩
theorem xF.imp {v:Value} {n:Nat} {F G:Nat→Nat→Prop} (h:xF v n F) (k:∀ g o,F g o→G g o):xF v n G:=by
 obtain⟨A,cap,hv,hn,hF⟩:=h;exact⟨A,cap,hv,hn,fun hp=>by obtain⟨g,o,hA,hr⟩:=hF hp;exact⟨g,o,hA,k g o hr⟩⟩
mutual
theorem RdE.below {B B':Nat} {w w':World} (hb:Below B w w') (hB:B≤B'):∀ (e:Ex) (g o:Nat),RdE B w e g o→RdE B' w' e g o
 | .mk k op n name args,g,o,h=>by
   rw[RdE]at h ⊢;obtain⟨h0,h1,h2,h3,hr,v,h4,hs⟩:=h;exact⟨h0.below hb hB,h1.below hb hB,h2.below hb hB,h3.below hb hB,hr,v,h4.below hb hB,hs.imp fun g' o'=>jM.below hb hB args g' o'⟩
theorem jM.below {B B':Nat} {w w':World} (hb:Below B w w') (hB:B≤B'):∀ (l:List Ex) (g o:Nat),jM B w l g o→jM B' w' l g o
 | [],_,_,_=>by rw[jM];trivial
 | e :: r,g,o,h=>by
   rw[jM]at h ⊢;exact⟨RdE.below hb hB e g o h.1,jM.below hb hB r g (o+5) h.2⟩
end
mutual
theorem RdS.below {B B':Nat} {w w':World} (hb:Below B w w') (hB:B≤B'):∀ (e:St) (g o:Nat),RdS B w e g o→RdS B' w' e g o
 | .mk k ty name args thn els,g,o,h=>by
   rw[RdS]at h ⊢;obtain⟨h0,h1,h2,⟨v,h3,hs⟩,⟨v4,h4,hs4⟩,⟨v5,h5,hs5⟩⟩:=h;exact⟨h0.below hb hB,h1.below hb hB,h2.below hb hB,⟨v,h3.below hb hB,hs.imp fun g' o'=>jM.below hb hB args g' o'⟩,⟨v4,h4.below hb hB,hs4.imp fun g' o'=>jf.below hb hB thn g' o'⟩,⟨v5,h5.below hb hB,hs5.imp fun g' o'=>jf.below hb hB els g' o'⟩⟩
theorem jf.below {B B':Nat} {w w':World} (hb:Below B w w') (hB:B≤B'):∀ (l:List St) (g o:Nat),jf B w l g o→jf B' w' l g o
 | [],_,_,_=>by rw[jf];trivial
 | e :: r,g,o,h=>by
   rw[jf]at h ⊢;exact⟨RdS.below hb hB e g o h.1,jf.below hb hB r g (o+6) h.2⟩
end
theorem jM.at {B:Nat} {w:World}:∀ (l:List Ex) (g o i:Nat) (e:Ex),jM B w l g o→l[i]? =some e→RdE B w e g (o+i * 5)
 | [],_,_,_,_,_,h=>by simp at h
 | a :: r,g,o,0,e,h,hi=>by
   rw[jM]at h;simp at hi;subst hi;simpa using h.1
 | a :: r,g,o,i+1,e,h,hi=>by
   rw[jM]at h;have:=jM.at r g (o+5) i e h.2 (by simpa using hi);rw[show o+(i+1) * 5=o+5+i * 5 by omega];exact this
theorem jf.at {B:Nat} {w:World}:∀ (l:List St) (g o i:Nat) (e:St),jf B w l g o→l[i]? =some e→RdS B w e g (o+i * 6)
 | [],_,_,_,_,_,h=>by simp at h
 | a :: r,g,o,0,e,h,hi=>by
   rw[jf]at h;simp at hi;subst hi;simpa using h.1
 | a :: r,g,o,i+1,e,h,hi=>by
   rw[jf]at h;have:=jf.at r g (o+6) i e h.2 (by simpa using hi);rw[show o+(i+1) * 6=o+6+i * 6 by omega];exact this
def qw (B:Nat) (w:World) (v:Value) (l:List Ex):Prop:=xF v l.length (jM B w l)
def SlS (B:Nat) (w:World) (v:Value) (l:List St):Prop:=xF v l.length (jf B w l)
theorem qw.below {B B':Nat} {w w':World} {v:Value} {l:List Ex} (h:qw B w v l) (hb:Below B w w') (hB:B≤B'):qw B' w' v l:=xF.imp h fun g o=>jM.below hb hB l g o
theorem SlS.below {B B':Nat} {w w':World} {v:Value} {l:List St} (h:SlS B w v l) (hb:Below B w w') (hB:B≤B'):SlS B' w' v l:=xF.imp h fun g o=>jf.below hb hB l g o
theorem qw.cells {B:Nat} {w:World} {A:Option Addr} {n cap:Nat} {l:List Ex} (h:qw B w (.slice A n cap) l) {i:Nat} {k op m:Int} {name:ByteArray} {args:List Ex} (hi:l[i]? =some (.mk k op m name args)):
 ∃ (g o:Nat) (v:Value),A=some ⟨g,o,none⟩∧g<B∧w.cell? ⟨g,o+i * 5,none⟩=some (.int .i64 k)∧w.cell? ⟨g,o+i * 5+1,none⟩=some (.int .i64 op)∧w.cell? ⟨g,o+i * 5+2,none⟩=some (.int .i64 m)∧
   w.cell? ⟨g,o+i * 5+3,none⟩=some (.string name)∧w.cell? ⟨g,o+i * 5+4,none⟩=some v∧qw B w v args:=by
 obtain⟨A',cap',hv,hn,hF⟩:=h;injection hv with e1 e2 e3;subst e1;obtain⟨g,o,hA,hr⟩:=hF (by have:=(List.getElem?_eq_some_iff.1 hi).1;omega);have hr':=jM.at l g o i _ hr hi;rw[RdE]at hr';obtain⟨h0,h1,h2,h3,_,v,h4,hs⟩:=hr';exact⟨g,o,v,hA,h0.1,h0.2,h1.2,h2.2,h3.2,h4.2,hs⟩
theorem qw.range {B:Nat} {w:World} {v:Value} {l:List Ex} (h:qw B w v l) {i:Nat} {k op m:Int} {name:ByteArray} {args:List Ex} (hi:l[i]? =some (.mk k op m name args)):vw m:=by
 obtain⟨A',cap',hv,hn,hF⟩:=h;obtain⟨g,o,hA,hr⟩:=hF (by have:=(List.getElem?_eq_some_iff.1 hi).1;omega);have hr':=jM.at l g o i _ hr hi;rw[RdE]at hr';exact hr'.2.2.2.2.1
theorem SlS.cells {B:Nat} {w:World} {A:Option Addr} {n cap:Nat} {l:List St} (h:SlS B w (.slice A n cap) l) {i:Nat} {k ty:Int} {name:ByteArray} {args:List Ex} {thn els:List St} (hi:l[i]? =some (.mk k ty name args thn els)):
 ∃ (g o:Nat) (v v4 v5:Value),A=some ⟨g,o,none⟩∧g<B∧w.cell? ⟨g,o+i * 6,none⟩=some (.int .i64 k)∧w.cell? ⟨g,o+i * 6+1,none⟩=some (.int .i64 ty)∧w.cell? ⟨g,o+i * 6+2,none⟩=some (.string name)∧
   w.cell? ⟨g,o+i * 6+3,none⟩=some v∧w.cell? ⟨g,o+i * 6+4,none⟩=some v4∧w.cell? ⟨g,o+i * 6+5,none⟩=some v5∧qw B w v args∧SlS B w v4 thn∧SlS B w v5 els:=by
 obtain⟨A',cap',hv,hn,hF⟩:=h;injection hv with e1 e2 e3;subst e1;obtain⟨g,o,hA,hr⟩:=hF (by have:=(List.getElem?_eq_some_iff.1 hi).1;omega);have hr':=jf.at l g o i _ hr hi;rw[RdS]at hr';obtain⟨h0,h1,h2,⟨v,h3,hs⟩,⟨v4,h4,hs4⟩,⟨v5,h5,hs5⟩⟩:=hr';exact⟨g,o,v,v4,v5,hA,h0.1,h0.2,h1.2,h2.2,h3.2,h4.2,h5.2,hs,hs4,hs5⟩
def xn {α:Type} (size:Nat) (F:α→Nat→Nat→Prop):List α→Nat→Nat→Prop
 | [],_,_=>True
 | a :: r,g,o=>F a g o∧xn size F r g (o+size)
theorem xn.imp {α:Type} {size:Nat} {F G:α→Nat→Nat→Prop} (k:∀ a g o,F a g o→G a g o):∀ (l:List α) (g o:Nat),xn size F l g o→xn size G l g o
 | [],_,_,_=>trivial
 | a :: r,g,o,h=>⟨k a g o h.1,xn.imp k r g (o+size) h.2⟩
theorem xn.at {α:Type} {size:Nat} {F:α→Nat→Nat→Prop}:∀ (l:List α) (g o i:Nat) (a:α),xn size F l g o→l[i]? =some a→F a g (o+i * size)
 | [],_,_,_,_,_,h=>by simp at h
 | a :: r,g,o,0,e,h,hi=>by
   simp at hi;subst hi;simpa using h.1
 | a :: r,g,o,i+1,e,h,hi=>by
   have:=xn.at r g (o+size) i e h.2 (by simpa using hi);rw[show o+(i+1) * size=o+size+i * size by rw[Nat.add_mul,Nat.one_mul];omega];exact this
def RdA (B:Nat) (w:World) (a:Ar) (g o:Nat):Prop:=CellB B w g o (.string a.name)∧CellB B w g (o+1) (.int .i64 a.size)
def RdP (B:Nat) (w:World) (a:Pa) (g o:Nat):Prop:=CellB B w g o (.string a.name)∧CellB B w g (o+1) (.int .i64 a.type)
def SlA (B:Nat) (w:World) (v:Value) (l:List Ar):Prop:=xF v l.length (xn 2 (RdA B w) l)
def SlP (B:Nat) (w:World) (v:Value) (l:List Pa):Prop:=xF v l.length (xn 2 (RdP B w) l)∧∀ A n c,v=.slice A n c→n≤c
def RdF (B:Nat) (w:World) (f:Fu) (g o:Nat):Prop:=CellB B w g o (.string f.name)∧CellB B w g (o+1) (.int .i64 f.type)∧(∃ v,CellB B w g (o+2) v∧SlP B w v f.params)∧(∃ v,CellB B w g (o+3) v∧SlS B w v f.body)
def SlF (B:Nat) (w:World) (v:Value) (l:List Fu):Prop:=xF v l.length (xn 4 (RdF B w) l)
theorem RdA.below {B B':Nat} {w w':World} (hb:Below B w w') (hB:B≤B') (a:Ar) (g o:Nat) (h:RdA B w a g o):RdA B' w' a g o:=⟨h.1.below hb hB,h.2.below hb hB⟩
theorem RdP.below {B B':Nat} {w w':World} (hb:Below B w w') (hB:B≤B') (a:Pa) (g o:Nat) (h:RdP B w a g o):RdP B' w' a g o:=⟨h.1.below hb hB,h.2.below hb hB⟩
theorem SlA.below {B B':Nat} {w w':World} {v:Value} {l:List Ar} (h:SlA B w v l) (hb:Below B w w') (hB:B≤B'):SlA B' w' v l:=xF.imp h fun g o=>xn.imp (fun a g o=>RdA.below hb hB a g o) l g o
theorem SlP.below {B B':Nat} {w w':World} {v:Value} {l:List Pa} (h:SlP B w v l) (hb:Below B w w') (hB:B≤B'):SlP B' w' v l:=⟨xF.imp h.1 fun g o=>xn.imp (fun a g o=>RdP.below hb hB a g o) l g o,h.2⟩
theorem RdF.below {B B':Nat} {w w':World} (hb:Below B w w') (hB:B≤B') (a:Fu) (g o:Nat) (h:RdF B w a g o):RdF B' w' a g o:=by
 obtain⟨h0,h1,⟨v,h2,h3⟩,⟨v',h4,h5⟩⟩:=h;exact⟨h0.below hb hB,h1.below hb hB,⟨v,h2.below hb hB,h3.below hb hB⟩,⟨v',h4.below hb hB,h5.below hb hB⟩⟩
theorem SlF.below {B B':Nat} {w w':World} {v:Value} {l:List Fu} (h:SlF B w v l) (hb:Below B w w') (hB:B≤B'):SlF B' w' v l:=xF.imp h fun g o=>xn.imp (fun a g o=>RdF.below hb hB a g o) l g o
theorem xF.elem {v:Value} {n:Nat} {F:Nat→Nat→Prop} {A:Option Addr} {m cap:Nat} (h:xF v n F) (hv:v=.slice A m cap) (hp:0<n):∃ g o,A=some ⟨g,o,none⟩∧F g o:=by
 obtain⟨A',cap',hv',_,hF⟩:=h;rw[hv]at hv';injection hv' with e1 _ _;subst e1;exact hF hp
theorem SlA.cells {B:Nat} {w:World} {A:Option Addr} {n cap:Nat} {l:List Ar} (h:SlA B w (.slice A n cap) l) {i:Nat} {a:Ar} (hi:l[i]? =some a):
 ∃ (g o:Nat),A=some ⟨g,o,none⟩∧g<B∧w.cell? ⟨g,o+i * 2,none⟩=some (.string a.name)∧w.cell? ⟨g,o+i * 2+1,none⟩=some (.int .i64 a.size):=by
 obtain⟨g,o,hA,hr⟩:=xF.elem h rfl (by have:=(List.getElem?_eq_some_iff.1 hi).1;omega);have:=xn.at l g o i a hr hi;exact⟨g,o,hA,this.1.1,this.1.2,this.2.2⟩
theorem SlP.cells {B:Nat} {w:World} {A:Option Addr} {n cap:Nat} {l:List Pa} (h:SlP B w (.slice A n cap) l) {i:Nat} {a:Pa} (hi:l[i]? =some a):
 ∃ (g o:Nat),A=some ⟨g,o,none⟩∧g<B∧w.cell? ⟨g,o+i * 2,none⟩=some (.string a.name)∧w.cell? ⟨g,o+i * 2+1,none⟩=some (.int .i64 a.type):=by
 obtain⟨g,o,hA,hr⟩:=xF.elem h.1 rfl (by have:=(List.getElem?_eq_some_iff.1 hi).1;omega);have:=xn.at l g o i a hr hi;exact⟨g,o,hA,this.1.1,this.1.2,this.2.2⟩
theorem SlF.cells {B:Nat} {w:World} {A:Option Addr} {n cap:Nat} {l:List Fu} (h:SlF B w (.slice A n cap) l) {i:Nat} {f:Fu} (hi:l[i]? =some f):
 ∃ (g o:Nat) (v v':Value),A=some ⟨g,o,none⟩∧g<B∧w.cell? ⟨g,o+i * 4,none⟩=some (.string f.name)∧w.cell? ⟨g,o+i * 4+1,none⟩=some (.int .i64 f.type)∧w.cell? ⟨g,o+i * 4+2,none⟩=some v∧w.cell? ⟨g,o+i * 4+3,none⟩=some v'∧SlP B w v f.params∧SlS B w v' f.body:=by
 obtain⟨g,o,hA,hr⟩:=xF.elem h rfl (by have:=(List.getElem?_eq_some_iff.1 hi).1;omega);obtain⟨h0,h1,⟨v,h2,h3⟩,⟨v',h4,h5⟩⟩:=xn.at l g o i f hr hi;exact⟨g,o,v,v',hA,h0.1,h0.2,h1.2,h2.2,h4.2,h3,h5⟩
theorem SlA.form {B:Nat} {w:World} {v:Value} {l:List Ar} (h:SlA B w v l):∃ A cap,v=.slice A l.length cap∧l.length≤281474976710656:=by
 obtain⟨A,cap,hv,hn,_⟩:=h;exact⟨A,cap,hv,hn⟩
theorem SlP.form {B:Nat} {w:World} {v:Value} {l:List Pa} (h:SlP B w v l):∃ A cap,v=.slice A l.length cap∧l.length≤281474976710656:=by
 obtain⟨A,cap,hv,hn,_⟩:=h.1;exact⟨A,cap,hv,hn⟩
theorem SlF.form {B:Nat} {w:World} {v:Value} {l:List Fu} (h:SlF B w v l):∃ A cap,v=.slice A l.length cap∧l.length≤281474976710656:=by
 obtain⟨A,cap,hv,hn,_⟩:=h;exact⟨A,cap,hv,hn⟩
theorem qw.form {B:Nat} {w:World} {v:Value} {l:List Ex} (h:qw B w v l):∃ A cap,v=.slice A l.length cap∧l.length≤281474976710656:=by
 obtain⟨A,cap,hv,hn,_⟩:=h;exact⟨A,cap,hv,hn⟩
theorem SlS.form {B:Nat} {w:World} {v:Value} {l:List St} (h:SlS B w v l):∃ A cap,v=.slice A l.length cap∧l.length≤281474976710656:=by
 obtain⟨A,cap,hv,hn,_⟩:=h;exact⟨A,cap,hv,hn⟩
end Go.Proofs.YtfghofifjnbicaaGreatDoor
