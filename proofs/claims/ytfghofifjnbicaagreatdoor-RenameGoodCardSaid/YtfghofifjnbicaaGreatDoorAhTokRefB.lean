import Derived.Test.YtfghofifjnbicaaGreatDoorAhZed
import Derived.Test.YtfghofifjnbicaaGreatDoorAhTokRefA
import Derived.Deep.QuietTactic
import Derived.BigQuiet
import Derived.Test.YtfghofifjnbicaaGreatDoorAhTokScan
import Derived.Test.YtfghofifjnbicaaGreatDoorAhTyRk
import Derived.Deep.DeepCutAuto
import Derived.Deep.CutBlock
import Derived.Deep.LoopGhost
import Derived.Lib.IndexBytes
import Derived.Test.YtfghofifjnbicaaGreatDoorAhParNums
import Derived.Test.YtfghofifjnbicaaGreatDoorAhTreeRefS
set_option linter.unusedSimpArgs false
set_option linter.unusedVariables false
set_option maxRecDepth 100000
/- The contracts of the document's answer for the layer token: signs. -/
namespace Go.Proofs.YtfghofifjnbicaaGreatDoor
open Lib (hid)
open Go.RowKit
def x6:List (List UInt8):=[[60,60],[62,62],[60,61],[62,61],[61,61],[33,61],[38,38],[124,124]]
def jR:List (List UInt8):=[62,62,62] :: (x6++signs1)
def rCells:Array Value:=(jR.map fun t=>Value.string ⟨t.toArray⟩).toArray
theorem rCells_at (k:Nat) (h:k<30):∃ t,jR[k]? =some t∧rCells[k]? =some (.string ⟨t.toArray⟩):=by
 have hk:k<jR.length:=by simpa[jR,x6,signs1] using h
 refine⟨jR[k],List.getElem?_eq_getElem hk,?_⟩;unfold rCells;rw[List.getElem?_toArray,List.getElem?_map,List.getElem?_eq_getElem hk];rfl
theorem find_perm {α:Type} (p:α→Bool) (xs ys:List α) (hm:∀ u,u ∈ xs↔u ∈ ys) (hex:∀ u v,u ∈ xs→v ∈ xs→p u=true→p v=true→u=v):xs.find? p=ys.find? p:=by
 cases hx:xs.find? p with
 | none=>
   rw[List.find?_eq_none]at hx;exact(List.find?_eq_none.2 fun u hu=>hx u ((hm u).2 hu)).symm
 | some u=>
   have hpu:=List.find?_some hx;have hu:=List.mem_of_find?_eq_some hx;cases hy:ys.find? p with
   | none=>exact absurd hpu (List.find?_eq_none.1 hy u ((hm u).1 hu))
   | some v=>rw[hex u v hu ((hm v).2 (List.mem_of_find?_eq_some hy)) hpu (List.find?_some hy)]
theorem uH (l:List UInt8):jR.find? (fun t=>Lib.hasPrefix l t)=yt.find? (fun t=>Lib.hasPrefix l t):=by
 have h2:x6.find? (fun t=>Lib.hasPrefix l t)=signs2.find? (fun t=>Lib.hasPrefix l t):=by
  refine find_perm _ _ _ (fun u=>(show x6.Perm signs2 by decide).mem_iff) (fun u v hu hv h1 h2=>?_);have hl:∀ x,x ∈ x6→x.length=2:=by decide
  have e1:=List.prefix_iff_eq_take.1 (List.isPrefixOf_iff_prefix.1 h1);have e2:=List.prefix_iff_eq_take.1 (List.isPrefixOf_iff_prefix.1 h2);rw[hl u hu]at e1;rw[hl v hv]at e2;rw[e1,e2]
 unfold jR yt;rw[List.find?_cons,List.find?_cons,List.find?_append,List.find?_append,h2]
theorem refSigns_at (l:List UInt8) (k:Nat) (t:List UInt8) (h:jR[k]? =some t) (hp:Lib.hasPrefix l t=true) (hn:∀ (j:Nat) u,j<k→jR[j]? =some u→Lib.hasPrefix l u=false):kb l=t:=by
 unfold kb;rw[←uH,find_first (fun t=>Lib.hasPrefix l t) _ k t h hp hn];rfl
theorem refSigns_none (l:List UInt8) (hn:∀ (j:Nat) u,jR[j]? =some u→Lib.hasPrefix l u=false):kb l=[]:=by
 unfold kb;rw[←uH,find_never (fun t=>Lib.hasPrefix l t) _ hn];rfl
theorem prefix_test (s tb:ByteArray) (t:List UInt8) (ht:(⟨t.toArray⟩:ByteArray)=tb) (hle:tb.size≤s.size):((s.extract 0 tb.size).toList == tb.toList)=Lib.hasPrefix s.data.toList t:=by
 subst ht;have e1:(⟨t.toArray⟩:ByteArray).toList=t:=by rw[Lib.toList_data]
 have e2:(⟨t.toArray⟩:ByteArray).size=t.length:=rfl;rw[e2]at hle;rw[←Lib.hasPrefix_of_take,Lib.extract_toList,e1,e2,decide_eq_true (by rw[←Lib.size_eq];exact hle),Bool.true_and];rfl
theorem prefix_test_no (s tb:ByteArray) (t:List UInt8) (ht:(⟨t.toArray⟩:ByteArray)=tb) (hle:¬ tb.size≤s.size):Lib.hasPrefix s.data.toList t=false:=by
 subst ht;have e2:(⟨t.toArray⟩:ByteArray).size=t.length:=rfl;rw[e2]at hle;rw[←Lib.hasPrefix_of_take,decide_eq_false (by rw[←Lib.size_eq];exact hle),Bool.false_and]
theorem tsign_any (s:ByteArray) (w:World):
 Calls Tryz.prog 38 #[.string s] w fun e w'=>e=.returned (.string ⟨(kb s.data.toList).toArray⟩)∧Below w.heap.size w w':=by
 go_enter Tryz.func38,Tryz.ntmps38;go_wp2
 go_loopw [4] (fun i wr=>∃ k:Nat,k≤30∧i=.int .i64 k∧(∀ (j:Nat) u,j<k→jR[j]? =some u→Lib.hasPrefix s.data.toList u=false)∧Is wr w.heap.size 9 rCells∧Below w.heap.size w wr) (fun i _=>30-(intOf i).toNat)
 case atStart=>exact⟨0,by omega,rfl,fun j u hj=>absurd hj (by omega),heap_alloc_new w _,Zb.alloc Zr _⟩
 case round=>
  obtain⟨k,hk,rfl,hall,hI,hb⟩:=hrel;have HA:=hid hall;have HI:=hid hI;clear hall hI;by_cases hlt:k<30
  · obtain⟨t,htk,hck⟩:=rCells_at k hlt
    obtain⟨tb,htb⟩:∃ tb:ByteArray,(⟨t.toArray⟩:ByteArray)=tb:=⟨_,rfl⟩
    rw[htb]at hck;have hcell:wr.cell? ⟨w.heap.size,k,none⟩=some (.string tb):=(HI.out.cell k).trans hck;have HK:=hid htk;have HTB:=hid htb;clear htk hck htb
    have HNEXT:Hid (Lib.hasPrefix s.data.toList t=false→∀ (j:Nat) u,j<k+1→jR[j]? =some u→Lib.hasPrefix s.data.toList u=false):=by
     intro hp j u hj hu;by_cases e:j=k
     · subst e
       have:=HK.out.symm.trans hu;injection this with this;exact this ▸ hp
     · exact HA.out j u (by omega) hu
    by_cases hle:tb.size≤s.size
    · go_wp2
      go_quiet (fail)
      go_wp2
      · have ht:((s.extract 0 tb.size).toList == tb.toList)=true:=by assumption
        rw[prefix_test s tb t HTB.out hle]at ht;go_ret;rw[refSigns_at _ k t HK.out ht HA.out,HTB.out];exact⟨rfl,ql hb _⟩
      · have ht:((s.extract 0 tb.size).toList == tb.toList)=false:=by assumption
        rw[prefix_test s tb t HTB.out hle]at ht;have HN:=hid (HNEXT.out ht);clear ht;go_roundw
        case rel=>exact⟨k+1,by omega,by go_num,HN.out,HI.out,ql hb _⟩
        case measure=>simp[intOf];omega
    · have hle':decide (tb.size≤s.size)=false:=by simpa using hle
      have HN:=hid (HNEXT.out (prefix_test_no s tb t HTB.out hle));go_wp2
      go_quiet (fail)
      go_wp2;go_roundw
      case rel=>exact⟨k+1,by omega,by go_num,HN.out,HI.out,ql hb _⟩
      case measure=>simp[intOf];omega
  · have e:k=30:=by omega
    subst e;go_wp2;go_ret;rw[refSigns_none _ (fun j u hu=>HA.out j u (by have:=(List.getElem?_eq_some_iff.1 hu).1;simpa[jR,x6,signs1] using this) hu)];exact⟨rfl,hb⟩
theorem rsign_is (s t:ByteArray) (h:(⟨(kb s.data.toList).toArray⟩:ByteArray)=t) (w:World):
 Calls Tryz.prog 38 #[.string s] w fun e w'=>e=.returned (.string t)∧Below w.heap.size w w':=h ▸ tsign_any s w
theorem zAn (s:ByteArray) (k:Nat) (h:k<s.size) (i c:Int) (hi:i=k) (hc:(s[k].toNat:Int)=c) (w:World):(Instr.index 9 (.string s) (.int .i64 i)).run Tryz.prog w=.ok (.int .u8 c) w:=by
 subst hi;exact y9 s k h c hc w
theorem zAo (s:ByteArray) (p n:Nat) (h:p+n<s.size):(s.data.toList.drop p)[n]? =some s[p+n]:=by
 rw[List.getElem?_drop,xp s (p+n) h]
theorem span_drop {s:ByteArray} {p n:Nat} (hn:p+n≤s.size) (h:∀ (j:Nat) b,j<n→(s.data.toList.drop p)[j]? =some b→qH b=true) (h2:∀ hl:p+n<s.size,qH s[p+n]=false):jo (s.data.toList.drop p)=n:=by
 refine ua qH _ n (by rw[List.length_drop,←Lib.size_eq];omega) h (fun b hb=>?_)
 have hlt:p+n<s.size:=by
  have:=(List.getElem?_eq_some_iff.1 hb).1;rw[List.length_drop,←Lib.size_eq]at this;omega
 rw[zAo s p n hlt]at hb;injection hb with hb;exact hb ▸ h2 hlt
theorem drop_step {s:ByteArray} {p n:Nat} (hl:p+n<s.size) (h:∀ (j:Nat) b,j<n→(s.data.toList.drop p)[j]? =some b→qH b=true) (ha:qH s[p+n]=true):
 ∀ (j:Nat) b,j<n+1→(s.data.toList.drop p)[j]? =some b→qH b=true:=by
 intro j b hj hb;by_cases e:j=n
 · subst e
   rw[zAo s p j hl]at hb;injection hb with hb;exact hb ▸ ha
 · exact h j b (by omega) hb
def RefRel (w:World) (s:ByteArray) (ov lv av:Value) (wr:World):Prop:=
 ∃ (at' line:Nat) (ts:List Tok),av=.int .i64 at'∧lv=.int .i64 line∧at'≤s.size∧line≤at'+1∧ts.length≤at'∧yE wr w.heap.size ov ts∧Below w.heap.size w wr∧
   zq s.data.toList 1=(ts++(zq (s.data.toList.drop at') line).1,(zq (s.data.toList.drop at') line).2)
theorem rtokens_long (s:ByteArray) (w:World) (h:100000<s.size):Calls Tryz.prog 15 #[.string s] w fun e w'=>e=.returned (.tuple #[.slice none 0 0,.int .i64 2,.int .i64 0])∧w=w':=by
 have hd:decide ((100000 :Int)<s.size)=true:=by simp;omega
 clear h;go_enter Tryz.func15,Tryz.ntmps15;go_wp2
 go_ret3
 exact⟨rfl,rfl⟩
theorem j9 (s:ByteArray) (p:Nat) (h:p<s.size):s.data.toList.drop p=s[p] :: s.data.toList.drop (p+1):=by
 rw[List.drop_eq_getElem_cons (by rw[←Lib.size_eq];exact h)];rfl
theorem scan_nl {c:UInt8} {r:List UInt8} (line:Nat) (h:c.toNat=10):zq (c :: r) line=zq r (line+1):=by
 rw[zq,if_pos (by simp[h])]
theorem scan_blk {c:UInt8} {r:List UInt8} (line:Nat) (h:ku c=true) (h10:c.toNat≠10):zq (c :: r) line=zq r line:=by
 rw[zq,if_neg (by simpa using h10),if_pos h]
theorem scan_com {l:List UInt8} (line:Nat) (h:Lib.hasPrefix l [47,47]=true):zq l line=zq (l.drop (l.takeWhile (fun d=>d.toNat != 10)).length) line:=by
 have:=scan_gap l line;unfold gapN at this;rw[if_pos h,nl_take]at this;exact this
section
variable {w wr:World} {s:ByteArray} {p line:Nat} {ov:Value} {ts:List Tok} (hp:p<s.size) (hlp:line≤p+1) (htl:ts.length≤p) (hO:yE wr w.heap.size ov ts) (hb:Below w.heap.size w wr)
 (hsc:zq s.data.toList 1=(ts++(zq (s.data.toList.drop p) line).1,(zq (s.data.toList.drop p) line).2))
include hp hlp htl hO hb hsc
theorem ref_nl (X:Obj) (h:s[p].toNat=10):RefRel w s ov (.int .i64 ((line:Int)+1)) (.int .i64 ((p:Int)+1)) (wr.alloc X):=by
 have hb1:Below wr.heap.size wr (wr.alloc X):=Zb.alloc Zr _;refine⟨p+1,line+1,ts,by go_num,by go_num,hp,by omega,by omega,hO.below hb1,hb.alloc hb.size _,?_⟩;rw[hsc,j9 s p hp,scan_nl line h]
theorem ref_blk (X:Obj) (h:ku s[p]=true) (h10:s[p].toNat≠10):RefRel w s ov (.int .i64 line) (.int .i64 ((p:Int)+1)) (wr.alloc X):=by
 have hb1:Below wr.heap.size wr (wr.alloc X):=Zb.alloc Zr _;refine⟨p+1,line,ts,by go_num,rfl,hp,by omega,by omega,hO.below hb1,hb.alloc hb.size _,?_⟩;rw[hsc,j9 s p hp,scan_blk line h h10]
omit hp in
theorem ref_com (X:Obj) (q:Nat) (hq:q≤s.size) (hpq:p≤q) (h:Lib.hasPrefix (s.data.toList.drop p) [47,47]=true) (hw:((s.data.toList.drop p).takeWhile (fun d=>d.toNat != 10)).length=q-p):RefRel w s ov (.int .i64 line) (.int .i64 (q:Int)) (wr.alloc X):=by
 have hb1:Below wr.heap.size wr (wr.alloc X):=Zb.alloc Zr _;refine⟨q,line,ts,rfl,rfl,hq,by omega,by omega,hO.below hb1,hb.alloc hb.size _,?_⟩;rw[hsc,scan_com line h,hw,List.drop_drop,show p+(q-p)=q by omega]
end
theorem isBlk_of {c:UInt8} (h:(c.toNat:Int)=32∨(c.toNat:Int)=9∨(c.toNat:Int)=13):ku c=true∧c.toNat≠10:=by
 unfold ku;refine⟨?_,by omega⟩;simp;omega
theorem com_prefix (s:ByteArray) (p:Nat) (h:p+1<s.size) (h1:(s[p].toNat:Int)=47) (h2:(s[p+1].toNat:Int)=47):Lib.hasPrefix (s.data.toList.drop p) [47,47]=true:=by
 rw[j9 s p (by omega),j9 s (p+1) h];have e1:s[p]=47:=UInt8.toNat_inj.1 (by show s[p].toNat=47;omega);have e2:s[p+1]=47:=UInt8.toNat_inj.1 (by show s[p+1].toNat=47;omega);rw[e1,e2];rfl
theorem com_done {s:ByteArray} {p q:Nat} (hpq:p≤q) (hq:q≤s.size) (h:∀ (j:Nat) b,j<q-p→(s.data.toList.drop p)[j]? =some b→(b.toNat != 10)=true) (h2:∀ hl:q<s.size,s[q].toNat=10):
 ((s.data.toList.drop p).takeWhile (fun d=>d.toNat != 10)).length=q-p:=by
 refine ua _ _ (q-p) (by rw[List.length_drop,←Lib.size_eq];omega) h (fun b hb=>?_)
 have hlt:p+(q-p)<s.size:=by
  have:=(List.getElem?_eq_some_iff.1 hb).1;rw[List.length_drop,←Lib.size_eq]at this;omega
 rw[zAo s p (q-p) hlt]at hb;injection hb with hb;have h3:=h2 (by omega);simp only[show p+(q-p)=q by omega]at hb;rw[←hb,h3];rfl
theorem com_step {s:ByteArray} {p q:Nat} (hpq:p≤q) (hq:q<s.size) (h:∀ (j:Nat) b,j<q-p→(s.data.toList.drop p)[j]? =some b→(b.toNat != 10)=true) (h2:s[q].toNat≠10):
 ∀ (j:Nat) b,j<q+1-p→(s.data.toList.drop p)[j]? =some b→(b.toNat != 10)=true:=by
 intro j b hj hb;by_cases e:j=q-p
 · subst e
   rw[zAo s p (q-p) (by omega)]at hb;injection hb with hb;simp only[show p+(q-p)=q by omega]at hb;rw[←hb];simpa using h2
 · exact h j b (by omega) hb
theorem span_head {s:ByteArray} {p n:Nat} (hp:p<s.size) (hn:jo (s.data.toList.drop p)=n) (h0:0<n):qH s[p]=true:=by
 rw[j9 s p hp]at hn;unfold jo at hn;cases h:qH s[p] with
 | true=>rfl
 | false=>
   rw[List.takeWhile_cons_of_neg (by simp[h])]at hn;simp at hn;omega
theorem gap_none (s:ByteArray) (p:Nat) (hp:p<s.size) (hb:ku s[p]=false) (hc:¬ ((s[p].toNat:Int)=47∧∃ hl:p+1<s.size,(s[p+1].toNat:Int)=47)):gapN (s.data.toList.drop p)=0:=by
 unfold gapN;split
 · rename_i h
   exfalso;obtain⟨r,e⟩:=x7 h
   have hl:p+1<s.size:=by
    have:=congrArg List.length e;rw[List.length_drop,←Lib.size_eq]at this;simp at this;omega
   rw[j9 s p hp,j9 s (p+1) hl]at e;injection e with e1 e2;injection e2 with e2 e3;exact hc ⟨by rw[e1];rfl,hl,by rw[e2];rfl⟩
 · rw[j9 s p hp,List.takeWhile_cons_of_neg (by simp[hb])]
   rfl
theorem blk_none {c:UInt8} (h10:(c.toNat:Int)≠10) (h:¬ ((c.toNat:Int)=32∨(c.toNat:Int)=9∨(c.toNat:Int)=13)):ku c=false:=by
 unfold ku;simp;omega
theorem kind_word {t:List UInt8} (h:kR t=true):kw t=some 2:=by unfold kw;rw[h];rfl
theorem kind_name {c:UInt8} {t:List UInt8} (h:kR (c :: t)=false) (hl:uB c=true):kw (c :: t)=if jl (c :: t) then some 1 else none:=by
 unfold kw
 have hn:jm (c :: t)=false:=by
  unfold jm;rw[List.all_cons,uC c hl];simp
 rw[h,hn];rfl
theorem kind_num {c:UInt8} {t:List UInt8} (h:kR (c :: t)=false) (hl:uB c=false):kw (c :: t)=if jm (c :: t) then some 0 else none:=by
 unfold kw
 have hn:jl (c :: t)=false:=by
  unfold jl;rw[List.headD_cons,hl];simp
 rw[h,hn];rfl
def kindR (b1 b2 b3:Bool):Option Int:=if b2 then some 2 else if b1 then (if b3 then some 1 else none) else if b3 then some 0 else none
theorem one_word {s:ByteArray} {p n:Nat} (hp:p<s.size) (hn:jo (s.data.toList.drop p)=n) (h0:0<n) (b1 b2 b3:Bool) (h1:yJ (s[p].toNat:Int)=b1) (h2:kR (s.extract p (p+n)).data.toList=b2)
 (h3:b2=false→(if b1 then jl (s.extract p (p+n)).data.toList else jm (s.extract p (p+n)).data.toList)=b3):
 one (s.data.toList.drop p)=(kindR b1 b2 b3).map fun k=>(k,(s.extract p (p+n)).data.toList):=by
 have ht:(s.extract p (p+n)).data.toList=(s.data.toList.drop p).take n:=by rw[Lib.extract_data,show p+n-p=n by omega]
 rw[one_span (by omega),hn,←ht];congr 1;obtain⟨m,rfl⟩:∃ m,n=m+1:=⟨n-1,by omega⟩
 rw[ht,j9 s p hp,List.take_succ_cons]at h2 h3 ⊢;rw[vU]at h1;unfold kindR;cases b2 with
 | true=>rw[kind_word h2];rfl
 | false=>
   have h3:=h3 rfl;cases b1 with
   | true=>
     rw[kind_name h2 h1];rw[if_pos rfl]at h3;rw[h3];rfl
   | false=>
     rw[kind_num h2 h1];rw[if_neg (by simp)]at h3;rw[h3];rfl
theorem app_pre (wo:World) (B:Nat) (v:Value) (ts:List Tok) (k:Int) (tx:ByteArray) (line:Nat) (hO:yE wo B v ts) (hB:B≤wo.heap.size):
 (wo.alloc (.cells #[.int .i64 k,.string tx,.int .i64 line] 57)).ownsRow B 57 3 v ts.length (q8 ts)∧
 (∀ j u,[Value.int .i64 k,.string tx,.int .i64 line][j]? =some u→(wo.alloc (.cells #[.int .i64 k,.string tx,.int .i64 line] 57)).cell? ((⟨wo.heap.size,0,none⟩:Addr).add j)=some u)∧
 B≤(wo.alloc (.cells #[.int .i64 k,.string tx,.int .i64 line] 57)).heap.size:=by
 have hb:Below wo.heap.size wo (wo.alloc (.cells #[.int .i64 k,.string tx,.int .i64 line] 57)):=Zb.alloc Zr _;refine⟨qy hO hb Zr,fun j u hu=>?_,Nat.le_trans hB hb.size⟩;rw[show (⟨wo.heap.size,0,none⟩:Addr).add j=⟨wo.heap.size,j,none⟩ by unfold Addr.add;split <;> simp_all];exact(cell_of_row _ wo.heap.size j _ _ (0,0) (heap_alloc_new wo _)).trans (by simpa using hu)
theorem com_ways (s:ByteArray) (p:Nat) (c:Int) (h:¬ (c=47∧∃ hl:p+1<s.size,(s[p+1].toNat:Int)=47)):
 (c == 47)=false∨(c=47∧decide ((p:Int)+1<s.size)=false)∨(c=47∧∃ d:Int,(d == 47)=false∧(p:Int)+1<s.size∧∀ w,(Instr.index 9 (.string s) (.int .i64 ((p:Int)+1))).run Tryz.prog w=.ok (.int .u8 d) w):=by
 by_cases h1:c=47
 · by_cases h2:p+1<s.size
   · refine .inr (.inr ⟨h1,_,?_,by omega,zAn s (p+1) h2 _ _ (by omega) rfl⟩)
     simpa using fun e=>h ⟨h1,h2,e⟩
   · exact .inr (.inl ⟨h1,by simp;omega⟩)
 · exact .inl (by simpa using h1)
theorem ref_pre (wo:World) (B:Nat) (v:Value) (ts:List Tok) (k:Int) (tx:ByteArray) (line:Nat) (hO:yE wo B v ts) (hB:B≤wo.heap.size):
 ((wo.alloc (.cells #[.int .i64 k,.string tx,.int .i64 line] 57)).alloc (.cells #[.int .i64 k,.string tx,.int .i64 line] 57)).ownsRow B 57 3 v ts.length (q8 ts)∧
 (∀ j u,[Value.int .i64 k,.string tx,.int .i64 line][j]? =some u→((wo.alloc (.cells #[.int .i64 k,.string tx,.int .i64 line] 57)).alloc (.cells #[.int .i64 k,.string tx,.int .i64 line] 57)).cell? ((⟨wo.heap.size+1,0,none⟩:Addr).add j)=some u)∧
 B≤((wo.alloc (.cells #[.int .i64 k,.string tx,.int .i64 line] 57)).alloc (.cells #[.int .i64 k,.string tx,.int .i64 line] 57)).heap.size:=by
 have hb:Below wo.heap.size wo ((wo.alloc (.cells #[.int .i64 k,.string tx,.int .i64 line] 57)).alloc (.cells #[.int .i64 k,.string tx,.int .i64 line] 57)):=
  (Zb.alloc Zr _).alloc (by simp) _
 refine⟨qy hO hb Zr,fun j u hu=>?_,Nat.le_trans hB hb.size⟩;rw[show (⟨wo.heap.size+1,0,none⟩:Addr).add j=⟨wo.heap.size+1,j,none⟩ by unfold Addr.add;split <;> simp_all];exact(cell_of_row _ (wo.heap.size+1) j _ _ (0,0) (heap_alloc2_new wo _ _)).trans (by simpa using hu)
theorem ref_end {w wr w1:World} {s:ByteArray} {p line:Nat} {ov v1:Value} {ts:List Tok} {X:Obj} (hp:p=s.size) (hb:Below w.heap.size w wr) (hsc:zq s.data.toList 1=(ts++(zq (s.data.toList.drop p) line).1,(zq (s.data.toList.drop p) line).2))
 (hO:yE wr w.heap.size ov ts) (hown1:w1.ownsRow w.heap.size 57 3 v1 (ts.length+1) (q8 ts++[.int .i64 3,.string ⟨#[]⟩,.int .i64 line])) (hg1:(wr.alloc X).grownBy w1 ov.ownBlock):
 kE w s.data.toList (.returned (.tuple #[v1,.int .i64 0,.int .i64 0])) w1:=by
 have hnil:s.data.toList.drop p=[]:=List.drop_eq_nil_of_le (by rw[←Lib.size_eq];omega);have e:zq s.data.toList 1=(ts++[⟨3,[],line⟩],none):=by rw[hsc,hnil,scan_end]
 have hb0:Below wr.heap.size wr (wr.alloc X):=Zb.alloc Zr _;have hOW:yE (wr.alloc X) w.heap.size ov ts:=hO.below hb0;have hb1:=hb.trans (hb0.mono hb.size);unfold kE;rw[e];refine⟨hb1.grown hg1 hb1.size (fun k hk=>(qJ hOW k hk).2),v1,rfl,?_⟩;unfold yE;rw[uE,List.length_append];exact hown1
section
variable {w wr:World} {s:ByteArray} {p line:Nat} {ov:Value} {ts:List Tok} (hp:p<s.size) (hlp:line≤p+1) (htl:ts.length≤p) (hO:yE wr w.heap.size ov ts) (hb:Below w.heap.size w wr)
 (hsc:zq s.data.toList 1=(ts++(zq (s.data.toList.drop p) line).1,(zq (s.data.toList.drop p) line).2)) (hgap:gapN (s.data.toList.drop p)=0)
include hp hlp htl hO hb hsc hgap
theorem ref_tok {W:World} (k:Int) (tx:ByteArray) (hone:one (s.data.toList.drop p)=some (k,tx.data.toList)) (hbW:Below wr.heap.size wr W) (w1:World) (v1:Value)
 (hown1:w1.ownsRow w.heap.size 57 3 v1 (ts.length+1) (q8 ts++[.int .i64 k,.string tx,.int .i64 line])) (hg1:W.grownBy w1 ov.ownBlock):
 RefRel w s v1 (.int .i64 line) (.int .i64 ((p:Int)+tx.size)) w1:=by
 obtain⟨h1,h2,h3⟩:=zAm hone;rw[List.length_drop,←Lib.size_eq,←Lib.size_eq]at h3;rw[←Lib.size_eq]at h2;have hb1:Below w.heap.size w W:=hb.trans (hbW.mono hb.size);have hOW:yE W w.heap.size ov ts:=hO.below hbW;refine⟨p+tx.size,line,ts++[⟨k,tx.data.toList,line⟩],by go_num,rfl,by omega,by omega,by rw[List.length_append];simp;omega,?_,hb1.grown hg1 hb1.size (fun k hk=>(qJ hOW k hk).2),?_⟩
 · unfold yE
   rw[uE,List.length_append,Lib.mk_data];exact hown1
 · rw[hsc,scan_one hgap hone,List.drop_drop,←Lib.size_eq]
   simp
omit hlp htl hO in
theorem ref_bad (hone:one (s.data.toList.drop p)=none) (w1:World) (hb1:Below wr.heap.size wr w1):kE w s.data.toList (.returned (.tuple #[.slice none 0 0,.int .i64 20,.int .i64 (line:Int)])) w1:=by
 have hne:s.data.toList.drop p≠[]:=by rw[j9 s p hp];simp
 have e:zq s.data.toList 1=(ts,some line):=by rw[hsc,scan_bad hgap hne hone];simp
 unfold kE;rw[e];exact⟨hb.trans (hb1.mono hb.size),rfl⟩
end
set_option maxHeartbeats 4000000 in
theorem rtokens_any (s:ByteArray) (w:World) (h:s.size≤100000):Calls Tryz.prog 15 #[.string s] w (kE w s.data.toList):=by
 have hd:decide ((100000 :Int)<s.size)=false:=by simp;omega
 go_enter Tryz.func15,Tryz.ntmps15;go_wp2
 go_loopw [5,6,7] (fun ov lv av wr=>RefRel w s ov lv av wr) (fun _ _ av _=>s.size-(intOf av).toNat)
 case atStart=>exact⟨0,1,[],rfl,rfl,Nat.zero_le _,by omega,Nat.zero_le _,yE.nil _ _,Below.refl _ _,rfl⟩
 case round=>
  obtain⟨p,line,ts,rfl,rfl,hp,hlp,htl,hO,hb,hsc⟩:=hrel;have HO:=hid hO;have HS:=hid hsc;clear hO hsc;obtain⟨wo,rfl⟩:∃ wo:World,wo=wr:=⟨_,rfl⟩
  by_cases hat:p<s.size
  · have hps:(p:Int)<s.size:=by omega
    go_upto_block 2 with(fail)
    go_cut [9] (fun nv wx=>wo.alloc (.cells #[.int .i64 0,.string ⟨#[]⟩,.int .i64 line] 57)=wx∧∃ n:Nat,p+n≤s.size∧nv=.int .i64 n∧jo (s.data.toList.drop p)=n)
    case first=>
     go_wp2_with (fail)
     go_loopg [9] s.size (fun g nv wx=>wo.alloc (.cells #[.int .i64 0,.string ⟨#[]⟩,.int .i64 line] 57)=wx∧∃ n:Nat,p+n≤s.size∧g=s.size-n∧nv=.int .i64 n∧∀ (j:Nat) b,j<n→(s.data.toList.drop p)[j]? =some b→qH b=true)
     case atStart=>exact⟨rfl,0,by omega,rfl,rfl,fun j b hj=>absurd hj (by omega)⟩
     case round=>
      obtain⟨rfl,n,hn,rfl,rfl,hall⟩:=hrel;have HA:=hid hall;clear hall;by_cases hlt:p+n<s.size
      · obtain⟨c,hc⟩:∃ c:Int,(s[p+n].toNat:Int)=c:=⟨_,rfl⟩
        have hix:=zAn s (p+n) hlt ((p:Int)+n) c (by omega) hc;obtain⟨b1,hb1⟩:∃ b,yJ c=b:=⟨_,rfl⟩
        obtain⟨b2,hb2⟩:∃ b,yu c=b:=⟨_,rfl⟩
        have HE:Hid (qH s[p+n]=(b1 || b2)):=by unfold Hid qH;rw[←hb1,←hb2,←hc,vU,vV]
        have HB1:=hid hb1;have HB2:=hid hb2;clear hb1 hb2 hc;cases b1 <;> cases b2
        all_goals
         go_wp2_with (first | (go_at_call 33;(with_reducible refine(qi _ _ HB1.out _).mono ?_);rintro e w' ⟨rfl,rfl⟩) | (go_at_call 34;(with_reducible refine(rdigit_is _ _ HB2.out _).mono ?_);rintro e w' ⟨rfl,rfl⟩))
        · go_meet
          exact⟨rfl,n,hn,rfl,span_drop (by omega) HA.out (fun _=>HE.out)⟩
        all_goals
         go_roundg (s.size-(n+1))
         case measure=>omega
         case rel=>exact⟨rfl,n+1,by omega,rfl,by go_num,drop_step hlt HA.out HE.out⟩
      · go_wp2
        go_meet
        exact⟨rfl,n,hn,rfl,span_drop (by omega) HA.out (fun hl=>absurd hl hlt)⟩
    case rest=>
     obtain⟨rfl,n,hn,rfl,hspan⟩:=hcut;have HSP:=hid hspan;clear hspan
     go_upto_block 4 with(fail)
     go_cut [6,7] (fun lv av wx=>lv=.int .i64 line∧av=.int .i64 p∧∃ (k:Int) (tx:ByteArray),gapN (s.data.toList.drop p)=0∧one (s.data.toList.drop p)=some (k,tx.data.toList)∧Is wx wo.heap.size 57 #[.int .i64 k,.string tx,.int .i64 line]∧Below wo.heap.size wo wx)
     case first=>
      obtain⟨c,hc⟩:∃ c:Int,(s[p].toNat:Int)=c:=⟨_,rfl⟩
      have hix:=zAn s p hat (p:Int) c rfl hc;have HC:=hid hc;clear hc;by_cases h10:c=10
      · subst h10
        go_wp2;go_roundw
        case rel=>exact ref_nl hat hlp htl HO.out hb HS.out _ (by have:=HC.out;omega)
        case measure=>simp[intOf];omega
      by_cases hbk:c=32∨c=9∨c=13
      · have HBK:Hid (ku s[p]=true∧s[p].toNat≠10):=isBlk_of (by rw[HC.out];exact hbk)
        rcases hbk with rfl | rfl | rfl
        all_goals
         go_wp2;go_roundw
         case rel=>exact ref_blk hat hlp htl HO.out hb HS.out _ HBK.out.1 HBK.out.2
         case measure=>simp[intOf];omega
      have hn10:(c == 10)=false:=by simpa using h10
      have hn32:(c == 32)=false:=by simp;omega
      have hn9:(c == 9)=false:=by simp;omega
      have hn13:(c == 13)=false:=by simp;omega
      by_cases hcm:c=47∧∃ hl:p+1<s.size,(s[p+1].toNat:Int)=47
      · obtain⟨rfl,hl,h47⟩:=hcm
        have hix2:=zAn s (p+1) hl ((p:Int)+1) 47 (by omega) h47;have hl':(p:Int)+1<s.size:=by omega
        have HP:=hid (com_prefix s p hl HC.out h47);clear h47 h10 hbk hn10 hn32 hn9 hn13
        go_upto_block 5 with(fail)
        go_cut [7] (fun av wx=>wo.alloc (.cells #[.int .i64 0,.string ⟨#[]⟩,.int .i64 line] 57)=wx∧∃ q:Nat,p<q∧q≤s.size∧av=.int .i64 q∧((s.data.toList.drop p).takeWhile (fun d=>d.toNat != 10)).length=q-p)
        case first=>
         go_wp2_with (fail)
         go_loopg [7] (s.size-p) (fun g av wx=>wo.alloc (.cells #[.int .i64 0,.string ⟨#[]⟩,.int .i64 line] 57)=wx∧∃ q:Nat,p≤q∧q≤s.size∧g=s.size-q∧av=.int .i64 q∧∀ (j:Nat) b,j<q-p→(s.data.toList.drop p)[j]? =some b→(b.toNat != 10)=true)
         case atStart=>exact⟨rfl,p,Nat.le_refl _,hp,rfl,rfl,fun j b hj=>absurd hj (by omega)⟩
         case round=>
          obtain⟨rfl,q,hpq,hq,rfl,rfl,hall⟩:=hrel;have HA:=hid hall;clear hall;by_cases hlt:q<s.size
          · obtain⟨d,hd'⟩:∃ d:Int,(s[q].toNat:Int)=d:=⟨_,rfl⟩
            have hixq:=zAn s q hlt (q:Int) d rfl hd';have HD:=hid hd';clear hd';by_cases hd10:d=10
            · subst hd10
              have hpq':p<q:=by
               rcases Nat.lt_or_ge p q with h | h
               · exact h
               · obtain rfl:p=q:=by omega
                 have e1:=HC.out;have e2:=HD.out;omega
              go_wp2
              go_meet
              exact⟨rfl,q,hpq',hq,rfl,com_done hpq hq HA.out (fun _=>by have:=HD.out;omega)⟩
            · have hdn:(d != 10)=true:=by simpa using hd10
              go_wp2
              go_roundg (s.size-(q+1))
              case measure=>omega
              case rel=>exact⟨rfl,q+1,by omega,hlt,rfl,by go_num,com_step hpq hlt HA.out (by have:=HD.out;omega)⟩
          · go_wp2
            go_meet
            exact⟨rfl,q,by omega,hq,rfl,com_done hpq hq HA.out (fun hl=>absurd hl hlt)⟩
        case rest=>
         obtain⟨rfl,q,hpq,hq,rfl,hw⟩:=hcut;have HW:=hid hw;clear hw;go_wp2;go_roundw
         case rel=>exact ref_com hlp htl HO.out hb HS.out _ q hq (by omega) HP.out HW.out
         case measure=>simp[intOf];omega
      · have HGAP:=hid (gap_none s p hat (blk_none (by rw[HC.out];exact h10) (by rw[HC.out];exact hbk)) (by rw[HC.out];exact hcm))
        by_cases h0:0<n
        · have hn47:(c == 47)=false:=by
           have h1:=span_head hat HSP.out h0;rw[Bool.eq_false_iff];intro e;have e2:=HC.out;simp at e;simp[qH,uB,kO]at h1;omega
          obtain⟨b1,hb1⟩:∃ b,yJ c=b:=⟨_,rfl⟩
          obtain⟨b2,hb2⟩:∃ b,kR (s.extract p (p+n)).data.toList=b:=⟨_,rfl⟩
          obtain⟨b3,hb3⟩:∃ b,(b2=false→(if b1 then jl (s.extract p (p+n)).data.toList else jm (s.extract p (p+n)).data.toList)=b):=⟨_,fun _=>rfl⟩
          have HONE:=hid (one_word hat HSP.out h0 b1 b2 b3 (by rw[HC.out];exact hb1) hb2 hb3);have HB1:=hid hb1;have HB2:=hid hb2;have HB3:=hid hb3;have HZ:Hid ((s.extract p (p+n)).size=n):=by unfold Hid;rw[Lib.size_eq,Lib.extract_data,List.length_take,List.length_drop,←Lib.size_eq];omega
          have HZ0:Hid (0<(s.extract p (p+n)).size):=by unfold Hid;rw[HZ.out];exact h0
          have HZ1:Hid ((s.extract p (p+n)).size≤281474976710656):=by unfold Hid;rw[HZ.out];omega
          have hzz:(s.extract p (p+n)).size≤100000:=by rw[HZ.out];omega
          clear hb1 hb2 hb3 hcm;cases b1 <;> cases b2 <;> cases b3
          · have HB4:Hid (jm (s.extract p (p+n)).data.toList=false):=HB3.out rfl
            go_wp2_with (first | (go_at_call 33;(with_reducible refine(qi _ _ HB1.out _).mono ?_);rintro e w' ⟨rfl,rfl⟩) | (go_at_call 35;(with_reducible refine(jq _ _ HB2.out _).mono ?_);rintro e w' ⟨rfl,rfl⟩) | (go_at_call 37;(with_reducible refine(rnumber_all _ _ HZ0.out HZ1.out _ HB4.out).mono ?_);rintro e w' ⟨rfl,rfl⟩))
            go_ret3
            exact ref_bad hat hb HS.out HGAP.out HONE.out _ (Zb.alloc Zr _)
          · have HB4:Hid (jm (s.extract p (p+n)).data.toList=true):=HB3.out rfl
            go_wp2_with (first | (go_at_call 33;(with_reducible refine(qi _ _ HB1.out _).mono ?_);rintro e w' ⟨rfl,rfl⟩) | (go_at_call 35;(with_reducible refine(jq _ _ HB2.out _).mono ?_);rintro e w' ⟨rfl,rfl⟩) | (go_at_call 37;(with_reducible refine(rnumber_all _ _ HZ0.out HZ1.out _ HB4.out).mono ?_);rintro e w' ⟨rfl,rfl⟩))
            go_meet
            exact⟨rfl,rfl,_,_,HGAP.out,HONE.out,heap_alloc_new wo _,Zb.alloc Zr _⟩
          · go_wp2_with (first | (go_at_call 33;(with_reducible refine(qi _ _ HB1.out _).mono ?_);rintro e w' ⟨rfl,rfl⟩) | (go_at_call 35;(with_reducible refine(jq _ _ HB2.out _).mono ?_);rintro e w' ⟨rfl,rfl⟩))
            go_meet
            exact⟨rfl,rfl,_,_,HGAP.out,HONE.out,heap_alloc_new wo _,Zb.alloc Zr _⟩
          · go_wp2_with (first | (go_at_call 33;(with_reducible refine(qi _ _ HB1.out _).mono ?_);rintro e w' ⟨rfl,rfl⟩) | (go_at_call 35;(with_reducible refine(jq _ _ HB2.out _).mono ?_);rintro e w' ⟨rfl,rfl⟩))
            go_meet
            exact⟨rfl,rfl,_,_,HGAP.out,HONE.out,heap_alloc_new wo _,Zb.alloc Zr _⟩
          · have HB4:Hid (jl (s.extract p (p+n)).data.toList=false):=HB3.out rfl
            go_wp2_with (first | (go_at_call 33;(with_reducible refine(qi _ _ HB1.out _).mono ?_);rintro e w' ⟨rfl,rfl⟩) | (go_at_call 35;(with_reducible refine(jq _ _ HB2.out _).mono ?_);rintro e w' ⟨rfl,rfl⟩) | (go_at_call 36;(with_reducible refine(rname_is _ _ HB4.out _).mono ?_);rintro e w' ⟨rfl,rfl⟩))
            go_ret3
            exact ref_bad hat hb HS.out HGAP.out HONE.out _ (Zb.alloc Zr _)
          · have HB4:Hid (jl (s.extract p (p+n)).data.toList=true):=HB3.out rfl
            go_wp2_with (first | (go_at_call 33;(with_reducible refine(qi _ _ HB1.out _).mono ?_);rintro e w' ⟨rfl,rfl⟩) | (go_at_call 35;(with_reducible refine(jq _ _ HB2.out _).mono ?_);rintro e w' ⟨rfl,rfl⟩) | (go_at_call 36;(with_reducible refine(rname_is _ _ HB4.out _).mono ?_);rintro e w' ⟨rfl,rfl⟩))
            go_meet
            exact⟨rfl,rfl,_,_,HGAP.out,HONE.out,heap_alloc_new wo _,Zb.alloc Zr _⟩
          · go_wp2_with (first | (go_at_call 33;(with_reducible refine(qi _ _ HB1.out _).mono ?_);rintro e w' ⟨rfl,rfl⟩) | (go_at_call 35;(with_reducible refine(jq _ _ HB2.out _).mono ?_);rintro e w' ⟨rfl,rfl⟩))
            go_meet
            exact⟨rfl,rfl,_,_,HGAP.out,HONE.out,heap_alloc_new wo _,Zb.alloc Zr _⟩
          · go_wp2_with (first | (go_at_call 33;(with_reducible refine(qi _ _ HB1.out _).mono ?_);rintro e w' ⟨rfl,rfl⟩) | (go_at_call 35;(with_reducible refine(jq _ _ HB2.out _).mono ?_);rintro e w' ⟨rfl,rfl⟩))
            go_meet
            exact⟨rfl,rfl,_,_,HGAP.out,HONE.out,heap_alloc_new wo _,Zb.alloc Zr _⟩
        · obtain⟨t,ht⟩:∃ t:ByteArray,(⟨(kb (s.extract p s.size).data.toList).toArray⟩:ByteArray)=t:=⟨_,rfl⟩
          have HT:=hid ht;have htl2:t.data.toList=kb (s.data.toList.drop p):=by rw[←ht,Lib.extract_to_end]
          have hn0:n=0:=by omega
          subst hn0;have HSG:Hid (one (s.data.toList.drop p)=if t.data.toList≠[] then some (2,t.data.toList) else none):=by unfold Hid;rw[one_sign HSP.out,←htl2]
          clear ht htl2 h0;by_cases ht0:t.size=0
          · have hnil:=ky t ht0
            have he:t.toList.isEmpty=true:=by rw[Lib.toList_data,hnil];rfl
            have he2:t.toList=[]:=by rw[Lib.toList_data,hnil]
            have HONE:Hid (one (s.data.toList.drop p)=none):=by unfold Hid;rw[HSG.out,hnil];rfl
            clear hnil ht0;have hways:(c == 47)=false∨(c=47∧decide ((p:Int)+1<s.size)=false)∨(c=47∧∃ d:Int,(d == 47)=false∧(p:Int)+1<s.size∧∀ w,(Instr.index 9 (.string s) (.int .i64 ((p:Int)+1))).run Tryz.prog w=.ok (.int .u8 d) w):=com_ways s p c hcm;rcases hways with hn47 | ⟨rfl,hpl⟩ | ⟨rfl,d,hd47,hpl,hix2⟩
            all_goals
             go_wp2_with (go_at_call 38;(with_reducible refine(rsign_is _ _ HT.out _).mono ?_);rintro e w2 ⟨rfl,hb2⟩;have HI2:=hid (Is.below (heap_alloc_new wo (.cells #[.int .i64 0,.string ⟨#[]⟩,.int .i64 line] 57)) hb2 (by simp));have k0:w2.cell? ⟨wo.heap.size,0,none⟩=some (.int .i64 0):=(HI2.out.cell 0).trans rfl;have k1:w2.cell? ⟨wo.heap.size,1,none⟩=some (.string ⟨#[]⟩):=(HI2.out.cell 1).trans rfl;have f0:=HI2.out.frozen 0;have f1:=HI2.out.frozen 1;have HB2:Hid (Below wo.heap.size wo w2):=(Zb.alloc Zr _).trans (hb2.mono (by simp)))
             go_ret3
             exact ref_bad hat hb HS.out HGAP.out HONE.out _ ((HB2.out.setCell (p:=⟨wo.heap.size,0,none⟩) Zr _).setCell (p:=⟨wo.heap.size,1,none⟩) Zr _)
          · have hne:=jG t (by omega)
            have he:t.toList.isEmpty=false:=by rw[Lib.toList_data];simpa using hne
            have HONE:Hid (one (s.data.toList.drop p)=some (2,t.data.toList)):=by unfold Hid;rw[HSG.out,if_pos hne]
            clear hne ht0;have hways:(c == 47)=false∨(c=47∧decide ((p:Int)+1<s.size)=false)∨(c=47∧∃ d:Int,(d == 47)=false∧(p:Int)+1<s.size∧∀ w,(Instr.index 9 (.string s) (.int .i64 ((p:Int)+1))).run Tryz.prog w=.ok (.int .u8 d) w):=com_ways s p c hcm;rcases hways with hn47 | ⟨rfl,hpl⟩ | ⟨rfl,d,hd47,hpl,hix2⟩
            all_goals
             go_wp2_with (go_at_call 38;(with_reducible refine(rsign_is _ _ HT.out _).mono ?_);rintro e w2 ⟨rfl,hb2⟩;have HI2:=hid (Is.below (heap_alloc_new wo (.cells #[.int .i64 0,.string ⟨#[]⟩,.int .i64 line] 57)) hb2 (by simp));have k0:w2.cell? ⟨wo.heap.size,0,none⟩=some (.int .i64 0):=(HI2.out.cell 0).trans rfl;have k1:w2.cell? ⟨wo.heap.size,1,none⟩=some (.string ⟨#[]⟩):=(HI2.out.cell 1).trans rfl;have f0:=HI2.out.frozen 0;have f1:=HI2.out.frozen 1;have HB2:Hid (Below wo.heap.size wo w2):=(Zb.alloc Zr _).trans (hb2.mono (by simp)))
             go_meet
             exact⟨rfl,rfl,2,t,HGAP.out,HONE.out,(HI2.out.set 0 _).set 1 _,(HB2.out.setCell (p:=⟨wo.heap.size,0,none⟩) Zr _).setCell (p:=⟨wo.heap.size,1,none⟩) Zr _⟩
     case rest=>
      obtain⟨rfl,rfl,k,tx,hgap,hone,hI,hbx⟩:=hcut;have HGAP:=hid hgap;clear hgap;have c0:wc.cell? ⟨wo.heap.size,0,none⟩=some (.int .i64 k):=(hI.cell 0).trans rfl;have c1:wc.cell? ⟨wo.heap.size,1,none⟩=some (.string tx):=(hI.cell 1).trans rfl;have c2:wc.cell? ⟨wo.heap.size,2,none⟩=some (.int .i64 line):=(hI.cell 2).trans rfl
      have hzz:tx.size≤100000:=by
       have:=(zAm hone).2.2;rw[List.length_drop,←Lib.size_eq,←Lib.size_eq]at this;omega
      have HZ:Hid (0<tx.size∧p+tx.size≤s.size):=by
       have h1:=(zAm hone).2;rw[List.length_drop,←Lib.size_eq,←Lib.size_eq]at h1;exact⟨h1.1,by omega⟩
      have HONE:=hid hone;have HPRE:=hid (app_pre wc w.heap.size u5 ts k tx line (HO.out.below hbx) (Nat.le_trans hb.size hbx.size));obtain⟨i0,hi0,hz0,hz1,hz2⟩:=info_parts tok_info;have HI0:=hid (And.intro hi0 (And.intro hz0 (And.intro hz1 hz2)));clear hone hI hi0 hz0 hz1 hz2;go_wp2_with (at_builtin;refine wpList_append_own _ rfl (.tmp 158) (.tmp 160) _ rfl w.heap.size 57 i0 _ 3 32 Tryz.underlying49 HI0.out.1 HI0.out.2.1 HI0.out.2.2.1 HI0.out.2.2.2 rfl (by omega) u5 ts.length (q8 ts) rfl (by exact HPRE.out.1) ⟨wc.heap.size,0,none⟩ 1 1 [.int .i64 k,.string tx,.int .i64 line] rfl rfl (by exact HPRE.out.2.1) (by simp[Value.oneCell']) (by simp only[maxLen];omega) (by omega) (by exact HPRE.out.2.2) ?_;intro v1 w1 hown1 hg1 _;have HO1:=hid hown1;have HG1:=hid hg1;clear hown1 hg1);go_roundw
      case rel=>exact ref_tok hat hlp htl HO.out hb HS.out HGAP.out k tx HONE.out (hbx.trans (Zb.alloc Zr _ |>.mono hbx.size)) _ _ HO1.out HG1.out
      case measure=>
       have hz:=HZ.out;simp only[intOf];omega
  · have hpe:p=s.size:=by omega
    have hps:decide ((p:Int)<s.size)=false:=by simp;omega
    have HPRE:=hid (app_pre wo w.heap.size u5 ts 3 ⟨#[]⟩ line HO.out hb.size);obtain⟨i0,hi0,hz0,hz1,hz2⟩:=info_parts tok_info;have HI0:=hid (And.intro hi0 (And.intro hz0 (And.intro hz1 hz2)));have HPE:=hid hpe;clear hi0 hz0 hz1 hz2 hpe;go_wp2_with (at_builtin;refine wpList_append_own _ rfl (.tmp 162) (.tmp 165) _ rfl w.heap.size 57 i0 _ 3 32 Tryz.underlying49 HI0.out.1 HI0.out.2.1 HI0.out.2.2.1 HI0.out.2.2.2 rfl (by omega) u5 ts.length (q8 ts) rfl (by exact HPRE.out.1) ⟨wo.heap.size,0,none⟩ 1 1 [.int .i64 3,.string ⟨#[]⟩,.int .i64 line] rfl rfl (by exact HPRE.out.2.1) (by simp[Value.oneCell']) (by simp only[maxLen];omega) (by omega) (by exact HPRE.out.2.2) ?_;intro v1 w1 hown1 hg1 _;have HO1:=hid hown1;have HG1:=hid hg1;clear hown1 hg1)
    go_ret3
    exact ref_end HPE.out hb HS.out HO.out HO1.out HG1.out
def xS (R:Pr × Int × Nat) (w:World) (e:Ending) (w':World):Prop:=
 Below w.heap.size w w'∧∃ v0 v1,e=.returned (.tuple #[.agg #[v0,v1],.int .i64 R.2.1,.int .i64 (R.2.2:Int)])∧SlA w'.heap.size (mask (yd w.heap.size) w') v0 R.1.arrays∧SlF w'.heap.size (mask (yd w.heap.size) w') v1 R.1.funcs
theorem slF_nil (B:Nat) (w:World):SlF B w (.slice none 0 0) []:=⟨none,0,rfl,Nat.zero_le _,fun h=>absurd h (by simp)⟩
theorem zAp {p:Nat→Bool} {B:Nat} {w:World}:∀ g o u,CellB B (mask p w) g o u→CellB B w g o u:=fun _ _ _ h=>(zn h).2
theorem FrG.tree {L:Nat} {w:World} {a:Pr} {v:Value} (h:FrG L w a v):∃ v0 v1,v=.agg #[v0,v1]∧SlA w.heap.size w v0 a.arrays∧SlF w.heap.size w v1 a.funcs:=by
 obtain⟨v0,v1,hv,h0,h1⟩:=h;exact⟨v0,v1,hv,h0.imp zAp,h1.imp zAp⟩
theorem off_below {b B C:Nat} {w w':World} (h:OffB b B w w') (hC:C≤B) (hb:C≤b):Below C w w':=by
 have g:Below B (hole b w) (hole b w'):=h;exact⟨g.os,g.tape,g.output,h.size,fun k hk=>h.block (by omega) (by omega)⟩
theorem box_new {w:World} {v:Value} {ts:List Tok} {B:Nat} (h:yE w B v ts) (hE:ze ts) (hl:ts.length≤1000000) (hn:∀ t ∈ ts,t.kind=0→jm t.text=true∧t.text.length≤281474976710656):
 qx w.heap.size v ts (.ok () ts) (w.alloc (.cells #[v,.int .i64 0,.bool false,.bool false] 54)):=by
 rcases h.2 with⟨rfl,h0⟩ | ⟨g,cap,cur,rfl,h1,h2,h3,h4,h5,h6⟩
 · exact absurd h0 (by have:=hE.pos;omega)
 · have hglt:g<w.heap.size:=(Array.getElem?_eq_some_iff.1 h2).1
   refine⟨?_,⟨g,cap,rfl,by omega,by simp;omega,fun j u hj=>?_,hl,fun t ht h0=>⟨(hn t ht h0).1,?_⟩⟩,List.suffix_refl _,hE⟩
   · rw[Nat.sub_self]
     exact heap_alloc_new w _
   · rw[Lib.cell_of_heap ((Below.heap_alloc w _ g hglt).trans h2)]
     rw[←h6,List.getElem?_take]at hj;split at hj
     · simpa using hj
     · cases hj
   · rw[Lib.size_eq]
     exact(hn t ht h0).2
def Rb (w W:World):Prop:=Below w.heap.size w W∧W.heap[w.heap.size]? =some pgBox
theorem Rb.start (w:World):Rb w (w.alloc pgBox):=⟨Zb.alloc Zr _,heap_alloc_new w pgBox⟩
section
variable {w W W':World}
theorem Rb.lt (h:Rb w W):w.heap.size<W.heap.size:=(Array.getElem?_eq_some_iff.1 h.2).1
theorem Rb.below (h:Rb w W) (hb:Below W.heap.size W W'):Rb w W':=⟨h.1.trans (hb.mono h.1.size),(hb.block _ h.lt).trans h.2⟩
theorem Rb.off {b B:Nat} (h:Rb w W) (ho:OffB b B W W') (hB:w.heap.size<B) (hb:w.heap.size<b):Rb w W':=⟨h.1.trans (off_below ho (by omega) (by omega)),qW ho hB (by omega) h.2⟩
theorem Rb.alloc (h:Rb w W) (o:Obj):Rb w (W.alloc o):=h.below (Zb.alloc Zr o)
theorem Rb.drew (h:Rb w W):Rb w W.drew:=h.below Zb.drew
theorem Rb.own (h:Rb w W):(W.cell? ⟨w.heap.size,0,none⟩=some (.slice none 0 0)∧W.cell? ⟨w.heap.size,1,none⟩=some (.slice none 0 0))∧∀ o,W.frozen? ⟨w.heap.size,o,none⟩=false:=j8 h.2
theorem Rb.read (h:Rb w W) (c0 c1:Value):((W.setCell ⟨w.heap.size,0,none⟩ c0).setCell ⟨w.heap.size,1,none⟩ c1).cell? ⟨w.heap.size,0,none⟩=some c0∧((W.setCell ⟨w.heap.size,0,none⟩ c0).setCell ⟨w.heap.size,1,none⟩ c1).cell? ⟨w.heap.size,1,none⟩=some c1:=(j8 (nest2_row h.2 c0 c1)).1
theorem Rb.fail (h:Rb w W) {R:Pr × Int × Nat} (e:Int) (ln:Nat) (hR:R=(pr0,e,ln)):xS R w (.returned (.tuple #[.agg #[.slice Option.none 0 0,.slice Option.none 0 0],.int .i64 e,.int .i64 (ln:Int)])) W:=by
 subst hR;exact⟨h.1,_,_,rfl,ue _ _,slF_nil _ _⟩
theorem Rb.nest (h:Rb w W) (c0 c1:Value):Below w.heap.size w (yA W w.heap.size c0 c1):=(h.1.setCell (p:=⟨w.heap.size,0,Option.none⟩) Zr _).setCell (p:=⟨w.heap.size,1,Option.none⟩) Zr _
theorem Rb.failn (h:Rb w W) {R:Pr × Int × Nat} (e:Int) (ln:Nat) (hR:R=(pr0,e,ln)) (c0 c1:Value):xS R w (.returned (.tuple #[.agg #[.slice Option.none 0 0,.slice Option.none 0 0],.int .i64 e,.int .i64 (ln:Int)])) (yA W w.heap.size c0 c1):=by
 subst hR;exact⟨h.nest c0 c1,_,_,rfl,ue _ _,slF_nil _ _⟩
theorem FrG.keep {L M:Nat} {a:Pr} {v:Value} (h:FrG L W a v) (k:zD L W W') (hM:M≤L):FrG M W' a v:=by
 obtain⟨v0,v1,hv,h0,h1⟩:=h;exact⟨v0,v1,hv,h0.imp (k.cells hM),h1.imp (k.cells hM)⟩
theorem Rb.give (h:Rb w W) {R:Pr × Int × Nat} {p:Pr} {v0 v1:Value} (hR:R=(p,0,0)) {L:Nat} (hG:FrG L W p (.agg #[v0,v1])) (hL:w.heap.size<L):xS R w (.returned (.tuple #[.agg #[v0,v1],.int .i64 0,.int .i64 ((0 :Nat):Int)])) (yA W w.heap.size v0 v1):=by
 subst hR;obtain⟨u0,u1,hv,h0,h1⟩:=hG.keep (zD.nest2 (g:=w.heap.size) hL v0 v1) (Nat.le_of_lt hL);simp only[Value.agg.injEq,Array.mk.injEq,List.cons.injEq,and_true]at hv;obtain⟨rfl,rfl⟩:=hv;exact⟨h.nest _ _,_,_,rfl,h0,h1⟩
end
theorem rparse_long (s:ByteArray) (w:World) (h:100000<s.size):Calls Tryz.prog 6 #[.string s] w (xS (kq s) w):=by
 rw[docP_long h];have HH:=hid h;have HR:=hid (Rb.start w);clear h;go_enter Tryz.func6,Tryz.ntmps6;go_wp2_with (go_at_call 15;(with_reducible refine(rtokens_long s _ HH.out).mono ?_);rintro e w1 ⟨rfl,rfl⟩);obtain⟨⟨c0,c1⟩,fz⟩:=HR.out.own;refine bodyPost_ret (v:=.tuple #[.agg #[.slice none 0 0,.slice none 0 0],.int .i64 2,.int .i64 ((0 :Nat):Int)]) (by simp[results,Tryz.results6,go_sem,c0,c1]) rfl ?_;exact HR.out.fail 2 0 rfl
theorem rtokens_no (s:ByteArray) (w:World) (h:s.size≤100000) {ln:Nat} (hs:(zq s.data.toList 1).2=some ln):Calls Tryz.prog 15 #[.string s] w fun e w'=>e=.returned (.tuple #[.slice none 0 0,.int .i64 20,.int .i64 (ln:Int)])∧Below w.heap.size w w':=
 (rtokens_any s w h).mono fun e w' hp=>by
   unfold kE at hp;rw[hs]at hp;exact⟨hp.2,hp.1⟩
theorem yB (s:ByteArray) (w:World) (h:s.size≤100000) {ts:List Tok} (hs:zq s.data.toList 1=(ts,none)):Calls Tryz.prog 15 #[.string s] w fun e w'=>∃ v,e=.returned (.tuple #[v,.int .i64 0,.int .i64 0])∧yE w' w.heap.size v ts∧Below w.heap.size w w':=
 (rtokens_any s w h).mono fun e w' hp=>by
   unfold kE at hp;rw[hs]at hp;obtain⟨h1,v,h2,h3⟩:=hp;exact⟨v,h2,h3,h1⟩
theorem rparse_no (s:ByteArray) (w:World) (h:s.size≤100000) {ln:Nat} (hs:(zq s.data.toList 1).2=some ln):Calls Tryz.prog 6 #[.string s] w (xS (kq s) w):=by
 rw[docP_no h hs];have HH:=hid h;have HS:=hid hs;have HR:=hid (Rb.start w);clear h hs;go_enter Tryz.func6,Tryz.ntmps6
 go_wp2_with (go_at_call 15;(with_reducible refine(rtokens_no s _ HH.out HS.out).mono ?_);rintro e w1 ⟨rfl,hb⟩
              replace HR:=hid (HR.out.below hb);obtain⟨⟨c0,c1⟩,fz⟩:=HR.out.own
              clear hb)
 refine bodyPost_ret (v:=.tuple #[.agg #[.slice none 0 0,.slice none 0 0],.int .i64 20,.int .i64 (ln:Int)]) (by simp[results,Tryz.results6,go_sem,c0,c1]) rfl ?_;exact HR.out.failn 20 ln rfl _ _
theorem box_go {s:ByteArray} {W:World} {v:Value} {ts:List Tok} {B:Nat} (h:yE W B v ts) (hs:zq s.data.toList 1=(ts,none)) (hl:s.size≤100000):qx W.heap.size v ts (.ok () ts) (W.alloc (.cells #[v,.int .i64 0,.bool false,.bool false] 54)):=by
 have hz:s.size=s.data.toList.length:=rfl;obtain⟨h1,h2⟩:=yZ _ _ _ _ Zr hs;exact box_new h (jQ _ _ _ _ Zr hs) (by omega) fun t ht h0=>⟨(h1 t ht h0).1,by have:=(h1 t ht h0).2;omega⟩
theorem vq {w:World} {B:Nat} {v:Value} {ts:List Tok} (h:yE w B v ts):∃ A c,v=.slice A ts.length c:=zj h
theorem right_go {L:Nat} {W:World} {p:Pr} {v0 v1:Value} {c:Bool} {o:Obj} (h:FrG L W p (.agg #[v0,v1])) (hc:prOK p=c):Calls Tryz.prog 17 #[.agg #[v0,v1]] (W.alloc o) fun e w'=>e=.returned (.bool c)∧Below (W.alloc o).heap.size (W.alloc o) w':=by
 obtain⟨u0,u1,hv,h0,h1⟩:=(h.keep (zD.of_below (L:=L) (Zb.alloc Zr o)) Zr).tree;simp only[Value.agg.injEq,Array.mk.injEq,List.cons.injEq,and_true]at hv;obtain⟨rfl,rfl⟩:=hv;exact ym _ p c hc _ _ _ Zr h0 h1
set_option maxHeartbeats 1600000 in
theorem rparse_ok (s:ByteArray) (w:World) (h:s.size≤100000) {ts:List Tok} (hs:zq s.data.toList 1=(ts,none)) {p:Pr} {r:List Tok} (hp:je ts=.ok p r):Calls Tryz.prog 6 #[.string s] w (xS (kq s) w):=by
 obtain⟨c,hc⟩:∃ c,prOK p=c:=⟨_,rfl⟩
 have hR:kq s=if c=true then (p,0,0) else (pr0,2,0):=by
  rw[vR h hs];unfold docT;rw[hp,←hc]
 have HE:=hid (show zG ((PR.ok () ts).bind fun _ r=>uY (20 * ts.length+40) ⟨[],[]⟩ r) from kx (jQ _ _ _ _ Zr hs));have HP:=hid hp;have HC:=hid hc;have HH:=hid h;have HS:=hid hs;have HR:=hid (Rb.start w);have HRR:=hid hR;clear h hs hp hc hR;cases c
 case false=>
  go_enter Tryz.func6,Tryz.ntmps6
  go_wp2_with (first
   | (go_at_call 15;(with_reducible refine(yB s _ HH.out HS.out).mono ?_);rintro e w1 ⟨v,rfl,hT,hb⟩
      obtain⟨A0,cp0,rfl⟩:=vq hT;have HT:=hid hT;replace HR:=hid (HR.out.below hb)
      clear hb hT)
   | (go_at_call 16;(with_reducible refine(zAh (box_go HT.out HS.out HH.out) HE.out).mono ?_);rintro e w3 ⟨v,rfl,hD,hG⟩
      have hp3:zS w1.heap.size (.slice A0 ts.length cp0) ts r false false w3:=by
       have h1:qx w1.heap.size (.slice A0 ts.length cp0) ts (je ts).un w3:=hD.st;rw[HP.out]at h1;exact h1
      have HG:=hid (show FrG (w1.alloc (.cells #[.slice A0 ts.length cp0,.int .i64 0,.bool false,.bool false] 54)).heap.size w3 p v by
       have h1:qn (je ts) _:=hG;rw[HP.out]at h1
       exact h1)
      obtain⟨v0,v1,rfl,g0,g1⟩:=HG.out;obtain⟨B0,q0,rfl,_⟩:=g0.form;obtain⟨B1,q1,rfl,_⟩:=g1.form;obtain⟨b0,b1,b2,b3⟩:=hp3.cells;have hw1:=HR.out.lt;have HR3:=hid ((HR.out.alloc _).off hD.off (by simp;omega) (by omega));have h3:w1.heap.size<w3.heap.size:=hp3.lt;have hw3:=HR3.out.lt
      clear hD hG hp3 g0 g1)
   | (go_at_call 17;(with_reducible refine(right_go HG.out HC.out).mono ?_);rintro e w4 ⟨rfl,hb⟩
      have HG4:=hid (HG.out.keep ((zD.of_below (Zb.alloc Zr _)).trans (zD.of_below hb)) Zr);have HR4:=hid ((HR3.out.alloc _).below hb);obtain⟨⟨o0,o1⟩,oz⟩:=j8 ((hb.block _ (by simp)).trans (heap_alloc_new w3 (.cells #[.slice B0 p.arrays.length q0,.slice B1 p.funcs.length q1] 26)));obtain⟨⟨c0,c1⟩,fz⟩:=HR4.out.own
      clear hb))
  refine bodyPost_ret (v:=.tuple #[.agg #[.slice none 0 0,.slice none 0 0],.int .i64 2,.int .i64 ((0 :Nat):Int)]) (by simp[results,Tryz.results6,go_sem,c0,c1]) rfl ?_;exact HR4.out.failn 2 0 (by rw[HRR.out];rfl) _ _
 case true=>
  go_enter Tryz.func6,Tryz.ntmps6
  go_wp2_with (first
   | (go_at_call 15;(with_reducible refine(yB s _ HH.out HS.out).mono ?_);rintro e w1 ⟨v,rfl,hT,hb⟩
      obtain⟨A0,cp0,rfl⟩:=vq hT;have HT:=hid hT;replace HR:=hid (HR.out.below hb)
      clear hb hT)
   | (go_at_call 16;(with_reducible refine(zAh (box_go HT.out HS.out HH.out) HE.out).mono ?_);rintro e w3 ⟨v,rfl,hD,hG⟩
      have hp3:zS w1.heap.size (.slice A0 ts.length cp0) ts r false false w3:=by
       have h1:qx w1.heap.size (.slice A0 ts.length cp0) ts (je ts).un w3:=hD.st;rw[HP.out]at h1;exact h1
      have HG:=hid (show FrG (w1.alloc (.cells #[.slice A0 ts.length cp0,.int .i64 0,.bool false,.bool false] 54)).heap.size w3 p v by
       have h1:qn (je ts) _:=hG;rw[HP.out]at h1
       exact h1)
      obtain⟨v0,v1,rfl,g0,g1⟩:=HG.out;obtain⟨B0,q0,rfl,_⟩:=g0.form;obtain⟨B1,q1,rfl,_⟩:=g1.form;obtain⟨b0,b1,b2,b3⟩:=hp3.cells;have hw1:=HR.out.lt;have HR3:=hid ((HR.out.alloc _).off hD.off (by simp;omega) (by omega));have h3:w1.heap.size<w3.heap.size:=hp3.lt;have hw3:=HR3.out.lt
      clear hD hG hp3 g0 g1)
   | (go_at_call 17;(with_reducible refine(right_go HG.out HC.out).mono ?_);rintro e w4 ⟨rfl,hb⟩
      have HG4:=hid (HG.out.keep ((zD.of_below (Zb.alloc Zr _)).trans (zD.of_below hb)) Zr);have HR4:=hid ((HR3.out.alloc _).below hb);obtain⟨⟨o0,o1⟩,oz⟩:=j8 ((hb.block _ (by simp)).trans (heap_alloc_new w3 (.cells #[.slice B0 p.arrays.length q0,.slice B1 p.funcs.length q1] 26)));obtain⟨⟨c0,c1⟩,fz⟩:=HR4.out.own
      clear hb))
  obtain⟨f0,f1⟩:=HR4.out.read (.slice B0 p.arrays.length q0) (.slice B1 p.funcs.length q1);refine bodyPost_ret (v:=.tuple #[.agg #[.slice B0 p.arrays.length q0,.slice B1 p.funcs.length q1],.int .i64 0,.int .i64 ((0 :Nat):Int)]) (by simp[results,Tryz.results6,go_sem,f0,f1]) rfl ?_;exact HR4.out.give (by rw[HRR.out];rfl) HG4.out (by simp;omega)
set_option maxHeartbeats 1600000 in
theorem rparse_bad (s:ByteArray) (w:World) (h:s.size≤100000) {ts:List Tok} (hs:zq s.data.toList 1=(ts,none)) {r:List Tok} (hp:je ts=.bad r):Calls Tryz.prog 6 #[.string s] w (xS (kq s) w):=by
 have hR:kq s=(pr0,20,hdL r):=by
  rw[vR h hs];unfold docT;rw[hp]
 have HE:=hid (show zG ((PR.ok () ts).bind fun _ r=>uY (20 * ts.length+40) ⟨[],[]⟩ r) from kx (jQ _ _ _ _ Zr hs));have HP:=hid hp;have HH:=hid h;have HS:=hid hs;have HR:=hid (Rb.start w);have HRR:=hid hR;clear h hs hp hR;go_enter Tryz.func6,Tryz.ntmps6
 go_wp2_with (first
  | (go_at_call 15;(with_reducible refine(yB s _ HH.out HS.out).mono ?_);rintro e w1 ⟨v,rfl,hT,hb⟩
     obtain⟨A0,cp0,rfl⟩:=vq hT;have HT:=hid hT;replace HR:=hid (HR.out.below hb)
     clear hb hT)
  | (go_at_call 16;(with_reducible refine(zAh (box_go HT.out HS.out HH.out) HE.out).mono ?_);rintro e w3 ⟨v,rfl,hD,hG⟩
     have hp3:zS w1.heap.size (.slice A0 ts.length cp0) ts r true false w3:=by
      have h1:qx w1.heap.size (.slice A0 ts.length cp0) ts (je ts).un w3:=hD.st;rw[HP.out]at h1;exact h1
     have hG2:∃ a,FrG (w1.alloc (.cells #[.slice A0 ts.length cp0,.int .i64 0,.bool false,.bool false] 54)).heap.size w3 a v:=by
      have h1:qn (je ts) _:=hG;rw[HP.out]at h1;exact h1
     obtain⟨a,v0,v1,rfl,g0,g1⟩:=hG2;obtain⟨B0,q0,rfl,_⟩:=g0.form;obtain⟨B1,q1,rfl,_⟩:=g1.form;obtain⟨g,cp,k,t,q,hV,hr,hk,hklt,hl,b0,b1,b2,b3,t0,t1,t2⟩:=hp3.tok;injection hV with hV1 _ hV2;subst hV1 hV2
     have hgb:g≠w1.heap.size∧g<w3.heap.size∧g≠w.heap.size:=by
      refine⟨?_,World.block_lt_of_cell? w3 ⟨g,k * 3+2,none⟩ t2,?_⟩
      · obtain⟨_,⟨g',c',hv',hb',_⟩,_⟩:=hp3
        injection hv' with e1 _ _;injection e1 with e1;injection e1 with e1 _ _;omega
      · obtain⟨_,_⟩:=HT.out
        have h1:=(qJ HT.out g rfl).2;simp at h1;omega
     obtain⟨hgb1,hgb2,hgb3⟩:=hgb;have hgb4:w.heap.size≠g:=fun e=>hgb3 e.symm
     have HLN:=hid (show (t.line:Int)=(hdL r:Int) by rw[hr];rfl);have hw1:=HR.out.lt;have HR3:=hid (((HR.out.alloc _).off hD.off (by simp;omega) (by omega)).alloc (.cells #[.slice B0 a.arrays.length q0,.slice B1 a.funcs.length q1] 26));obtain⟨⟨c0,c1⟩,fz⟩:=HR3.out.own;have h3:w1.heap.size<w3.heap.size:=hp3.lt;have hkl2:(k:Int)<ts.length:=by omega
     have hw3:=HR3.out.lt;have hne:w.heap.size≠w1.heap.size:=by omega
     clear hD hG hp3 g0 g1 hr hk))
 have m1:(w3.alloc (.cells #[.slice B0 a.arrays.length q0,.slice B1 a.funcs.length q1] 26)).cell? ⟨w1.heap.size,1,none⟩=some (.int .i64 (k:Int)):=by rw[World.cell?_alloc_past _ _ _ h3];exact b1
 have m2:(w3.alloc (.cells #[.slice B0 a.arrays.length q0,.slice B1 a.funcs.length q1] 26)).cell? ⟨g,k * 3+2,none⟩=some (.int .i64 (t.line:Int)):=by rw[World.cell?_alloc_past _ _ _ hgb2];exact t2
 go_region_held3 (fun w'=>w'.cell? ⟨w1.heap.size,1,none⟩=some (.int .i64 (k:Int))∧w'.cell? ⟨g,k * 3+2,none⟩=some (.int .i64 (t.line:Int)))
  (go_keep)
  (fail)
 all_goals
  go_wp2_with (fail);obtain⟨f0,f1⟩:=HR3.out.read (.slice none 0 0) (.slice none 0 0);refine bodyPost_ret (v:=.tuple #[.agg #[.slice none 0 0,.slice none 0 0],.int .i64 20,.int .i64 ((hdL r:Nat):Int)]) (by rw[←HLN.out];simp[results,Tryz.results6,go_sem,f0,f1]) rfl ?_;exact HR3.out.drew.failn 20 (hdL r) HRR.out _ _
set_option maxHeartbeats 1600000 in
theorem rparse_deep (s:ByteArray) (w:World) (h:s.size≤100000) {ts:List Tok} (hs:zq s.data.toList 1=(ts,none)) {r:List Tok} (hp:je ts=.deep r):Calls Tryz.prog 6 #[.string s] w (xS (kq s) w):=by
 have hR:kq s=(pr0,2,hdL r):=by
  rw[vR h hs];unfold docT;rw[hp]
 have HE:=hid (show zG ((PR.ok () ts).bind fun _ r=>uY (20 * ts.length+40) ⟨[],[]⟩ r) from kx (jQ _ _ _ _ Zr hs));have HP:=hid hp;have HH:=hid h;have HS:=hid hs;have HR:=hid (Rb.start w);have HRR:=hid hR;clear h hs hp hR;go_enter Tryz.func6,Tryz.ntmps6
 go_wp2_with (first
  | (go_at_call 15;(with_reducible refine(yB s _ HH.out HS.out).mono ?_);rintro e w1 ⟨v,rfl,hT,hb⟩
     obtain⟨A0,cp0,rfl⟩:=vq hT;have HT:=hid hT;replace HR:=hid (HR.out.below hb)
     clear hb hT)
  | (go_at_call 16;(with_reducible refine(zAh (box_go HT.out HS.out HH.out) HE.out).mono ?_);rintro e w3 ⟨v,rfl,hD,hG⟩
     have hp3:zS w1.heap.size (.slice A0 ts.length cp0) ts r false true w3:=by
      have h1:qx w1.heap.size (.slice A0 ts.length cp0) ts (je ts).un w3:=hD.st;rw[HP.out]at h1;exact h1
     have hG2:∃ a,FrG (w1.alloc (.cells #[.slice A0 ts.length cp0,.int .i64 0,.bool false,.bool false] 54)).heap.size w3 a v:=by
      have h1:qn (je ts) _:=hG;rw[HP.out]at h1;exact h1
     obtain⟨a,v0,v1,rfl,g0,g1⟩:=hG2;obtain⟨B0,q0,rfl,_⟩:=g0.form;obtain⟨B1,q1,rfl,_⟩:=g1.form;obtain⟨g,cp,k,t,q,hV,hr,hk,hklt,hl,b0,b1,b2,b3,t0,t1,t2⟩:=hp3.tok;injection hV with hV1 _ hV2;subst hV1 hV2
     have hgb:g≠w1.heap.size∧g<w3.heap.size∧g≠w.heap.size:=by
      refine⟨?_,World.block_lt_of_cell? w3 ⟨g,k * 3+2,none⟩ t2,?_⟩
      · obtain⟨_,⟨g',c',hv',hb',_⟩,_⟩:=hp3
        injection hv' with e1 _ _;injection e1 with e1;injection e1 with e1 _ _;omega
      · obtain⟨_,_⟩:=HT.out
        have h1:=(qJ HT.out g rfl).2;simp at h1;omega
     obtain⟨hgb1,hgb2,hgb3⟩:=hgb;have hgb4:w.heap.size≠g:=fun e=>hgb3 e.symm
     have HLN:=hid (show (t.line:Int)=(hdL r:Int) by rw[hr];rfl);have hw1:=HR.out.lt;have HR3:=hid (((HR.out.alloc _).off hD.off (by simp;omega) (by omega)).alloc (.cells #[.slice B0 a.arrays.length q0,.slice B1 a.funcs.length q1] 26));obtain⟨⟨c0,c1⟩,fz⟩:=HR3.out.own;have h3:w1.heap.size<w3.heap.size:=hp3.lt;have hkl2:(k:Int)<ts.length:=by omega
     have hw3:=HR3.out.lt;have hne:w.heap.size≠w1.heap.size:=by omega
     clear hD hG hp3 g0 g1 hr hk))
 have m1:(w3.alloc (.cells #[.slice B0 a.arrays.length q0,.slice B1 a.funcs.length q1] 26)).cell? ⟨w1.heap.size,1,none⟩=some (.int .i64 (k:Int)):=by rw[World.cell?_alloc_past _ _ _ h3];exact b1
 have m2:(w3.alloc (.cells #[.slice B0 a.arrays.length q0,.slice B1 a.funcs.length q1] 26)).cell? ⟨g,k * 3+2,none⟩=some (.int .i64 (t.line:Int)):=by rw[World.cell?_alloc_past _ _ _ hgb2];exact t2
 go_region_held3 (fun w'=>w'.cell? ⟨w1.heap.size,1,none⟩=some (.int .i64 (k:Int))∧w'.cell? ⟨g,k * 3+2,none⟩=some (.int .i64 (t.line:Int)))
  (go_keep)
  (fail)
 all_goals
  go_wp2_with (fail);obtain⟨f0,f1⟩:=HR3.out.read (.slice none 0 0) (.slice none 0 0);refine bodyPost_ret (v:=.tuple #[.agg #[.slice none 0 0,.slice none 0 0],.int .i64 2,.int .i64 ((hdL r:Nat):Int)]) (by rw[←HLN.out];simp[results,Tryz.results6,go_sem,f0,f1]) rfl ?_;exact HR3.out.drew.failn 2 (hdL r) HRR.out _ _
theorem rparse_any (s:ByteArray) (w:World):Calls Tryz.prog 6 #[.string s] w (xS (kq s) w):=by
 by_cases h:100000<s.size
 · exact rparse_long s w h
 · cases hs:(zq s.data.toList 1).2 with
   | some ln=>exact rparse_no s w (by omega) hs
   | none=>
     have hs2:=scan_none hs;cases hp:je (zq s.data.toList 1).1 with
     | ok p r=>exact rparse_ok s w (by omega) hs2 hp
     | bad r=>exact rparse_bad s w (by omega) hs2 hp
     | deep r=>exact rparse_deep s w (by omega) hs2 hp
     | out=>
       have h1:=kx (jQ _ _ _ _ Zr hs2);rw[hp]at h1;exact absurd h1 id
end Go.Proofs.YtfghofifjnbicaaGreatDoor
