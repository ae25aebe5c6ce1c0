import Derived.Test.YtfghofifjnbicaaGreatDoorAhZed
import Derived.Test.YtfghofifjnbicaaGreatDoorProg
import Derived.Test.YtfghofifjnbicaaGreatDoorAhTokMath
import Derived.Test.YtfghofifjnbicaaGreatDoorShelf
import Derived.WalkSpells
import Derived.WalkLawsBesides
import Derived.Outline
import Derived.Below
import Derived.Laws.RangeAny
import Derived.LoopTactic
import Derived.Lib.Walk
import Derived.Deep.Light
import Derived.Lib.Hide
import Derived.IntWalk
import Derived.Laws.Rows
import Derived.Lib.SmallJoins
set_option linter.unusedSimpArgs false
set_option linter.unusedVariables false
set_option maxRecDepth 100000
/- The contracts of the small functions of the layer token and of the document's answer: letters, digits, words, names, spans. -/
namespace Go.Proofs.YtfghofifjnbicaaGreatDoor
open Lib (hid)
open Go.RowKit
theorem zk {k:IntKind} {a b:Int} (h:a=b):Ending.returned (.int k a)=.returned (.int k b):=by rw[h]
theorem zC {a b:Bool} (h:a=b):Ending.returned (.bool a)=.returned (.bool b):=by rw[h]
theorem letter_any (c:Int) (w:World):Calls Tryz.prog 114 #[.int .i32 c] w fun e w'=>e=.returned (.bool (yJ c))∧w=w':=by
 go_enter Tryz.func114,Tryz.ntmps114;go_wp2
 all_goals go_ret
 all_goals refine⟨zC ?_,rfl⟩
 all_goals go_light
 all_goals (unfold yJ;rw[Bool.eq_iff_iff];simp;omega)
theorem rletter_any (c:Int) (w:World):Calls Tryz.prog 33 #[.int .u8 c] w fun e w'=>e=.returned (.bool (yJ c))∧w=w':=by
 go_enter Tryz.func33,Tryz.ntmps33;go_wp2
 all_goals go_ret
 all_goals refine⟨zC ?_,rfl⟩
 all_goals go_light
 all_goals (unfold yJ;rw[Bool.eq_iff_iff];simp;omega)
theorem digit_any (c:Int) (w:World):Calls Tryz.prog 100 #[.int .i32 c] w fun e w'=>e=.returned (.bool (yu c))∧w=w':=by
 go_enter Tryz.func100,Tryz.ntmps100;go_wp2
 all_goals go_ret
 all_goals refine⟨zC ?_,rfl⟩
 all_goals go_light
 all_goals (unfold yu;rw[Bool.eq_iff_iff];simp;omega)
theorem rdigit_any (c:Int) (w:World):Calls Tryz.prog 34 #[.int .u8 c] w fun e w'=>e=.returned (.bool (yu c))∧w=w':=by
 go_enter Tryz.func34,Tryz.ntmps34;go_wp2
 all_goals go_ret
 all_goals refine⟨zC ?_,rfl⟩
 all_goals go_light
 all_goals (unfold yu;rw[Bool.eq_iff_iff];simp;omega)
theorem word_any (s:ByteArray) (w:World):Calls Tryz.prog 102 #[.string s] w fun e w'=>e=.returned (.bool (kR s.data.toList))∧w=w':=by
 rw[←Lib.toList_data];go_enter Tryz.func102,Tryz.ntmps102;go_wp2
 all_goals go_ret
 all_goals refine⟨zC ?_,rfl⟩
 all_goals go_light
 all_goals simp_all [kR,words]
theorem rword_any (s:ByteArray) (w:World):Calls Tryz.prog 35 #[.string s] w fun e w'=>e=.returned (.bool (kR s.data.toList))∧w=w':=by
 rw[←Lib.toList_data];go_enter Tryz.func35,Tryz.ntmps35;go_wp2
 all_goals go_ret
 all_goals refine⟨zC ?_,rfl⟩
 all_goals go_light
 all_goals simp_all [kR,words]
theorem below_iter {B:Nat} {a w:World} (h:Below B a w) (hB:B≤w.heap.size) (s:ByteArray) (pos:Nat):Below B a (w.iter s pos):=h.alloc hB _
theorem xp (s:ByteArray) (pos:Nat) (h:pos<s.size):s.data.toList[pos]? =some s[pos]:=by
 rw[Array.getElem?_toList];exact Array.getElem?_eq_getElem h
theorem all_step {s:ByteArray} {pos:Nat} (hp:pos<s.size) (h:∀ (j:Nat) b,j<pos→s.data.toList[j]? =some b→qH b=true) (ha:qH s[pos]=true):
 ∀ (j:Nat) b,j<pos+1→s.data.toList[j]? =some b→qH b=true:=by
 intro j b hj hb;by_cases e:j=pos
 · subst e
   rw[xp s j hp]at hb;injection hb with hb;exact hb ▸ ha
 · exact h j b (by omega) hb
theorem span_done {s:ByteArray} {pos:Nat} (hp:pos≤s.size) (h:∀ (j:Nat) b,j<pos→s.data.toList[j]? =some b→qH b=true) (h2:∀ hp:pos<s.size,qH s[pos]=false):
 jo s.data.toList=pos:=
 ua qH _ pos hp h (fun b hb=>by
  have hlt:pos<s.size:=(List.getElem?_eq_some_iff.1 hb).1;rw[xp s pos hlt]at hb;injection hb with hb
  exact hb ▸ h2 hlt)
theorem span_any (s:ByteArray) (w:World):Calls Tryz.prog 101 #[.string s] w fun e w'=>e=.returned (.int .i64 (jo s.data.toList))∧Below w.heap.size w w':=by
 have hsz:s.data.toList.length=s.size:=rfl;go_enter Tryz.func101,Tryz.ntmps101;go_wp2
 go_loopw [3] (fun _ w'=>∃ pos:Nat,w'=w.iter s pos∧pos≤s.size∧∀ (j:Nat) b,j<pos→s.data.toList[j]? =some b→qH b=true) (fun _ w'=>s.size-w'.iterPos w.heap.size)
 case atStart=>exact⟨0,rfl,Nat.zero_le _,fun j b hj=>absurd hj (by omega)⟩
 case round=>
  obtain⟨pos,rfl,hp1,hall⟩:=hrel;have HA:=hid hall;clear hall;by_cases hp:pos<s.size
  · have hnx:∀ ty,(Instr.next (.pointer (some ⟨w.heap.size,0,none⟩)) true ty).run Tryz.prog (w.iter s pos)=_:=fun ty=>run_next_any w s pos ty hp
    by_cases ha:qH s[pos]=true
    · have hlow:=isAln_low _ ha
      rw[decode_ascii s pos hp hlow]at hnx
      have hor:yJ (s[pos].toNat:Int)=true∨yu (s[pos].toNat:Int)=true:=by
       rw[vU,vV];simpa[qH] using ha
      have HO:=hid hor;have HL:=hid ha;clear hor ha;go_wp2_with (first | (go_at_call 114;(with_reducible refine(letter_any _ _).mono ?_);rintro e w' ⟨rfl,rfl⟩) | (go_at_call 100;(with_reducible refine(digit_any _ _).mono ?_);rintro e w' ⟨rfl,rfl⟩))
      all_goals first
       | (go_roundw
          case rel=>exact⟨pos+1,rfl,hp,all_step hp HA.out HL.out⟩
          case measure=>simp;omega)
       | (exfalso;have:=HO.out;simp_all;done)
    · have HL:=hid ha
      have hno:yJ ((Utf8.decode s pos).1 :Int)=false∧yu ((Utf8.decode s pos).1 :Int)=false:=by
       by_cases hlow:s[pos].toNat<128
       · rw[decode_ascii s pos hp hlow]
         show yJ (s[pos].toNat:Int)=false∧yu (s[pos].toNat:Int)=false;rw[vU,vV];simpa[qH] using ha
       · have:=(decode_high s pos hp (by omega)).1
         exact⟨letZ_high _ (by omega),digZ_high _ (by omega)⟩
      obtain⟨hn1,hn2⟩:=hno;clear ha;go_wp2_with (first | (go_at_call 114;(with_reducible refine(letter_any _ _).mono ?_);rintro e w' ⟨rfl,rfl⟩) | (go_at_call 100;(with_reducible refine(digit_any _ _).mono ?_);rintro e w' ⟨rfl,rfl⟩));go_ret;refine⟨zk ?_,below_iter Zb Zr _ _⟩;rw[span_done hp1 HA.out (fun _=>by simpa using HL.out)]
  · have hnx:∀ ty,(Instr.next (.pointer (some ⟨w.heap.size,0,none⟩)) true ty).run Tryz.prog (w.iter s pos)=_:=fun ty=>run_next_end w s pos ty hp
    go_wp2;go_ret;refine⟨zk ?_,below_iter Zb Zr _ _⟩;have e:pos=s.size:=by omega
    subst e;rw[span_done hp1 HA.out (fun h=>absurd h hp)]
theorem head_eq (s:ByteArray) (h:0<s.size):s.data.toList.headD 0=s[0]:=by
 have:=xp s 0 h;cases hl:s.data.toList with
 | nil=>rw[hl]at this;cases this
 | cons a t=>rw[hl]at this;simpa using this
theorem ky (s:ByteArray) (h:s.size=0):s.data.toList=[]:=List.eq_nil_of_length_eq_zero h
theorem jG (s:ByteArray) (h:0<s.size):s.data.toList≠[]:=fun e=>by have:s.data.toList.length=s.size:=rfl;rw[e]at this;simp at this;omega
theorem name_nil (s:ByteArray) (w:World) (h0:s.size=0):Calls Tryz.prog 87 #[.string s] w fun e w'=>e=.returned (.bool false)∧w=w':=by
 have hl:=ky s h0;have he:s.toList.isEmpty=true:=by rw[Lib.toList_data,hl];rfl
 have he2:s.toList=[]:=by rw[Lib.toList_data,hl]
 clear hl h0;go_enter Tryz.func87,Tryz.ntmps87;go_wp2;go_ret;exact⟨rfl,rfl⟩
theorem name_long (s:ByteArray) (w:World) (h20:20<s.size):Calls Tryz.prog 87 #[.string s] w fun e w'=>e=.returned (.bool false)∧w=w':=by
 have hne:=jG s (by omega);have he:s.toList.isEmpty=false:=by rw[Lib.toList_data];simpa using hne
 have hd:decide ((20 :Int)<s.size)=true:=by simp;omega
 clear hne h20;go_enter Tryz.func87,Tryz.ntmps87;go_wp2;go_ret;exact⟨rfl,rfl⟩
theorem digit_is (c:Int) (b:Bool) (h:yu c=b) (w:World):Calls Tryz.prog 100 #[.int .i32 c] w fun e w'=>e=.returned (.bool b)∧w=w':=h ▸ digit_any c w
theorem span_is (s:ByteArray) (n:Nat) (h:jo s.data.toList=n) (w:World):Calls Tryz.prog 101 #[.string s] w fun e w'=>e=.returned (.int .i64 n)∧Below w.heap.size w w':=h ▸ span_any s w
theorem word_is (s:ByteArray) (b:Bool) (h:kR s.data.toList=b) (w:World):Calls Tryz.prog 102 #[.string s] w fun e w'=>e=.returned (.bool b)∧w=w':=h ▸ word_any s w
theorem name_short (s:ByteArray) (w:World) (hp:0<s.size) (h20:s.size≤20) (b1:Bool) (n:Nat) (b3:Bool) (h1:yu (wrap32 (s[0].toNat:Int))=b1) (h2:jo s.data.toList=n) (h3:kR s.data.toList=b3):
 Calls Tryz.prog 87 #[.string s] w fun e w'=>e=.returned (.bool ((!b1) && decide (n=s.size) && !b3))∧Below w.heap.size w w':=by
 have hne:=jG s hp;have he:s.toList.isEmpty=false:=by rw[Lib.toList_data];simpa using hne
 have hd:decide ((20 :Int)<s.size)=false:=by simp;omega
 have H1:=hid h1;have H2:=hid h2;have H3:=hid h3;clear hne h1 h2 h3;cases b1
 all_goals
  go_enter Tryz.func87,Tryz.ntmps87;go_wp2_with (first | (go_at_call 100;(with_reducible refine(digit_is _ _ H1.out _).mono ?_);rintro e w' ⟨rfl,rfl⟩) | (go_at_call 101;(with_reducible refine(span_is _ _ H2.out _).mono ?_);rintro e w1 ⟨rfl,hb⟩) | (go_at_call 102;(with_reducible refine(word_is _ _ H3.out _).mono ?_);rintro e w' ⟨rfl,rfl⟩))
 all_goals go_ret
 all_goals first
  | (refine⟨zC ?_,hb⟩;simp;intros;omega)
  | (refine⟨zC ?_,Below.refl _ _⟩;simp;done)
theorem name_any (s:ByteArray) (w:World):Calls Tryz.prog 87 #[.string s] w fun e w'=>e=.returned (.bool (jl s.data.toList))∧Below w.heap.size w w':=by
 have hsz:s.data.toList.length=s.size:=rfl;by_cases h0:s.size=0
 · rw[ky s h0,nameB_nil]
   exact(name_nil s w h0).mono fun e w' ⟨h,k⟩=>⟨h,k ▸ Below.refl _ _⟩
 by_cases h20:20<s.size
 · rw[nameB_long _ (by omega)]
   exact(name_long s w h20).mono fun e w' ⟨h,k⟩=>⟨h,k ▸ Below.refl _ _⟩
 · have hp:0<s.size:=by omega
   rw[nameB_eq _ (jG s hp) (by omega),head_eq s hp,←vV];refine name_short s w hp (by omega) _ _ _ ?_ rfl rfl;rw[IntWalk.wrap32_in _ (by have:=s[0].toNat_lt;omega)]
theorem ql {B:Nat} {a w:World} (h:Below B a w) (n:Nat):Below B a (w.drewN n):=⟨h.os,h.tape,h.output,h.size,h.block⟩
theorem name_is (s:ByteArray) (b:Bool) (h:jl s.data.toList=b) (w:World):Calls Tryz.prog 87 #[.string s] w fun e w'=>e=.returned (.bool b)∧Below w.heap.size w w':=h ▸ name_any s w
section
variable {P:Program}
end
end Go.Proofs.YtfghofifjnbicaaGreatDoor
