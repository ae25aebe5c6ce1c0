import Derived.Test.YtndgkfkieogplaaDoorAgTokRefA
import Derived.Deep.QuietTactic
import Derived.BigQuiet
import Derived.Test.YtndgkfkieogplaaDoorAgTokScan
import Derived.Test.YtndgkfkieogplaaDoorAgParFn
import Derived.Deep.DeepCutAuto
import Derived.Deep.CutBlock
import Derived.Deep.LoopGhost
import Derived.Lib.IndexBytes
set_option linter.unusedSimpArgs false
set_option linter.unusedVariables false
set_option maxRecDepth 100000
/- The contracts of the document's answer for the layer token: signs. -/
namespace Go.Proofs.YtndgkfkieogplaaDoor
open Lib (hid)
open Go.RowKit
def ya:List (List UInt8):=[[60,60],[62,62],[60,61],[62,61],[61,61],[33,61],[38,38],[124,124]]
def jl:List (List UInt8):=[62,62,62] :: (ya++signs1)
def rCells:Array Value:=(jl.map fun t=>Value.string ⟨t.toArray⟩).toArray
theorem rCells_at (k:Nat) (h:k<30):∃ t,jl[k]? =some t∧rCells[k]? =some (.string ⟨t.toArray⟩):=by
 have hk:k<jl.length:=by simpa[jl,ya,signs1] using h
 refine⟨jl[k],List.getElem?_eq_getElem hk,?_⟩
 unfold rCells
 rw[List.getElem?_toArray,List.getElem?_map,List.getElem?_eq_getElem hk]
 rfl
theorem find_perm {α:Type} (p:α→Bool) (xs ys:List α) (hm:∀ u,u ∈ xs↔u ∈ ys) (hex:∀ u v,u ∈ xs→v ∈ xs→p u=true→p v=true→u=v):xs.find? p=ys.find? p:=by
 cases hx:xs.find? p with
 | none=>
   rw[List.find?_eq_none]at hx
   exact(List.find?_eq_none.2 fun u hu=>hx u ((hm u).2 hu)).symm
 | some u=>
   have hpu:=List.find?_some hx
   have hu:=List.mem_of_find?_eq_some hx
   cases hy:ys.find? p with
   | none=>exact absurd hpu (List.find?_eq_none.1 hy u ((hm u).1 hu))
   | some v=>rw[hex u v hu ((hm v).2 (List.mem_of_find?_eq_some hy)) hpu (List.find?_some hy)]
theorem refSigns_find (l:List UInt8):jl.find? (fun t=>Lib.hasPrefix l t)=zn.find? (fun t=>Lib.hasPrefix l t):=by
 have h2:ya.find? (fun t=>Lib.hasPrefix l t)=signs2.find? (fun t=>Lib.hasPrefix l t):=by
  refine find_perm _ _ _ (fun u=>(show ya.Perm signs2 by decide).mem_iff) (fun u v hu hv h1 h2=>?_)
  have hl:∀ x,x ∈ ya→x.length=2:=by decide
  have e1:=List.prefix_iff_eq_take.1 (List.isPrefixOf_iff_prefix.1 h1)
  have e2:=List.prefix_iff_eq_take.1 (List.isPrefixOf_iff_prefix.1 h2)
  rw[hl u hu]at e1
  rw[hl v hv]at e2
  rw[e1,e2]
 unfold jl zn
 rw[List.find?_cons,List.find?_cons,List.find?_append,List.find?_append,h2]
theorem refSigns_at (l:List UInt8) (k:Nat) (t:List UInt8) (h:jl[k]? =some t) (hp:Lib.hasPrefix l t=true) (hn:∀ (j:Nat) u,j<k→jl[j]? =some u→Lib.hasPrefix l u=false):kQ l=t:=by
 unfold kQ
 rw[←refSigns_find,find_first (fun t=>Lib.hasPrefix l t) _ k t h hp hn]
 rfl
theorem refSigns_none (l:List UInt8) (hn:∀ (j:Nat) u,jl[j]? =some u→Lib.hasPrefix l u=false):kQ l=[]:=by
 unfold kQ
 rw[←refSigns_find,find_never (fun t=>Lib.hasPrefix l t) _ hn]
 rfl
theorem prefix_test (s tb:ByteArray) (t:List UInt8) (ht:(⟨t.toArray⟩:ByteArray)=tb) (hle:tb.size≤s.size):((s.extract 0 tb.size).toList == tb.toList)=Lib.hasPrefix s.data.toList t:=by
 subst ht
 have e1:(⟨t.toArray⟩:ByteArray).toList=t:=by rw[Lib.toList_data]
 have e2:(⟨t.toArray⟩:ByteArray).size=t.length:=rfl
 rw[e2]at hle
 rw[←Lib.hasPrefix_of_take,Lib.extract_toList,e1,e2,decide_eq_true (by rw[←Lib.size_eq];exact hle),Bool.true_and]
 rfl
theorem prefix_test_no (s tb:ByteArray) (t:List UInt8) (ht:(⟨t.toArray⟩:ByteArray)=tb) (hle:¬ tb.size≤s.size):Lib.hasPrefix s.data.toList t=false:=by
 subst ht
 have e2:(⟨t.toArray⟩:ByteArray).size=t.length:=rfl
 rw[e2]at hle
 rw[←Lib.hasPrefix_of_take,decide_eq_false (by rw[←Lib.size_eq];exact hle),Bool.false_and]
theorem tsign_any (s:ByteArray) (w:World):
 Calls Tryd.prog 39 #[.string s] w fun e w'=>e=.returned (.string ⟨(kQ s.data.toList).toArray⟩)∧Below w.heap.size w w':=by
 go_enter Tryd.func39,Tryd.ntmps39
 go_wp2
 go_loopw [4] (fun i wr=>∃ k:Nat,k≤30∧i=.int .i64 k∧(∀ (j:Nat) u,j<k→jl[j]? =some u→Lib.hasPrefix s.data.toList u=false)∧Is wr w.heap.size 9 rCells∧Below w.heap.size w wr) (fun i _=>30-(intOf i).toNat)
 case atStart=>exact⟨0,by omega,rfl,fun j u hj=>absurd hj (by omega),heap_alloc_new w _,(Below.refl _ _).alloc (Nat.le_refl _) _⟩
 case round=>
  obtain⟨k,hk,rfl,hall,hI,hb⟩:=hrel
  have HA:=hid hall
  have HI:=hid hI
  clear hall hI
  by_cases hlt:k<30
  · obtain⟨t,htk,hck⟩:=rCells_at k hlt
    obtain⟨tb,htb⟩:∃ tb:ByteArray,(⟨t.toArray⟩:ByteArray)=tb:=⟨_,rfl⟩
    rw[htb]at hck
    have hcell:wr.cell? ⟨w.heap.size,k,none⟩=some (.string tb):=(HI.out.cell k).trans hck
    have HK:=hid htk
    have HTB:=hid htb
    clear htk hck htb
    have HNEXT:Hid (Lib.hasPrefix s.data.toList t=false→∀ (j:Nat) u,j<k+1→jl[j]? =some u→Lib.hasPrefix s.data.toList u=false):=by
     intro hp j u hj hu
     by_cases e:j=k
     · subst e
       have:=HK.out.symm.trans hu
       injection this with this
       exact this ▸ hp
     · exact HA.out j u (by omega) hu
    by_cases hle:tb.size≤s.size
    · go_wp2
      go_quiet (fail)
      go_wp2
      · have ht:((s.extract 0 tb.size).toList == tb.toList)=true:=by assumption
        rw[prefix_test s tb t HTB.out hle]at ht
        go_ret
        rw[refSigns_at _ k t HK.out ht HA.out,HTB.out]
        exact⟨rfl,yH hb _⟩
      · have ht:((s.extract 0 tb.size).toList == tb.toList)=false:=by assumption
        rw[prefix_test s tb t HTB.out hle]at ht
        have HN:=hid (HNEXT.out ht)
        clear ht
        go_roundw
        case rel=>exact⟨k+1,by omega,by go_num,HN.out,HI.out,yH hb _⟩
        case measure=>simp[intOf];omega
    · have hle':decide (tb.size≤s.size)=false:=by simpa using hle
      have HN:=hid (HNEXT.out (prefix_test_no s tb t HTB.out hle))
      go_wp2
      go_quiet (fail)
      go_wp2
      go_roundw
      case rel=>exact⟨k+1,by omega,by go_num,HN.out,HI.out,yH hb _⟩
      case measure=>simp[intOf];omega
  · have e:k=30:=by omega
    subst e
    go_wp2
    go_ret
    rw[refSigns_none _ (fun j u hu=>HA.out j u (by have:=(List.getElem?_eq_some_iff.1 hu).1;simpa[jl,ya,signs1] using this) hu)]
    exact⟨rfl,hb⟩
theorem rsign_is (s t:ByteArray) (h:(⟨(kQ s.data.toList).toArray⟩:ByteArray)=t) (w:World):
 Calls Tryd.prog 39 #[.string s] w fun e w'=>e=.returned (.string t)∧Below w.heap.size w w':=h ▸ tsign_any s w
theorem byte_at (s:ByteArray) (k:Nat) (h:k<s.size) (i c:Int) (hi:i=k) (hc:(s[k].toNat:Int)=c) (w:World):(Instr.index 9 (.string s) (.int .i64 i)).run Tryd.prog w=.ok (.int .u8 c) w:=by
 subst hi
 exact uL s k h c hc w
theorem drop_get (s:ByteArray) (p n:Nat) (h:p+n<s.size):(s.data.toList.drop p)[n]? =some s[p+n]:=by
 rw[List.getElem?_drop,vA s (p+n) h]
theorem span_drop {s:ByteArray} {p n:Nat} (hn:p+n≤s.size) (h:∀ (j:Nat) b,j<n→(s.data.toList.drop p)[j]? =some b→zd b=true) (h2:∀ hl:p+n<s.size,zd s[p+n]=false):ko (s.data.toList.drop p)=n:=by
 refine span_len zd _ n (by rw[List.length_drop,←Lib.size_eq];omega) h (fun b hb=>?_)
 have hlt:p+n<s.size:=by
  have:=(List.getElem?_eq_some_iff.1 hb).1
  rw[List.length_drop,←Lib.size_eq]at this
  omega
 rw[drop_get s p n hlt]at hb
 injection hb with hb
 exact hb ▸ h2 hlt
theorem drop_step {s:ByteArray} {p n:Nat} (hl:p+n<s.size) (h:∀ (j:Nat) b,j<n→(s.data.toList.drop p)[j]? =some b→zd b=true) (ha:zd s[p+n]=true):
 ∀ (j:Nat) b,j<n+1→(s.data.toList.drop p)[j]? =some b→zd b=true:=by
 intro j b hj hb
 by_cases e:j=n
 · subst e
   rw[drop_get s p j hl]at hb
   injection hb with hb
   exact hb ▸ ha
 · exact h j b (by omega) hb
def RefRel (w:World) (s:ByteArray) (ov lv av:Value) (wr:World):Prop:=
 ∃ (at' line:Nat) (ts:List Tok),av=.int .i64 at'∧lv=.int .i64 line∧at'≤s.size∧line≤at'+1∧ts.length≤at'∧vT wr w.heap.size ov ts∧Below w.heap.size w wr∧
   zN s.data.toList 1=(ts++(zN (s.data.toList.drop at') line).1,(zN (s.data.toList.drop at') line).2)
theorem rtokens_long (s:ByteArray) (w:World) (h:100000<s.size):Calls Tryd.prog 16 #[.string s] w fun e w'=>e=.returned (.tuple #[.slice none 0 0,.int .i64 2,.int .i64 0])∧w=w':=by
 have hd:decide ((100000 :Int)<s.size)=true:=by simp;omega
 clear h
 go_enter Tryd.func16,Tryd.ntmps16
 go_wp2
 go_ret3
 exact⟨rfl,rfl⟩
theorem kG (s:ByteArray) (p:Nat) (h:p<s.size):s.data.toList.drop p=s[p] :: s.data.toList.drop (p+1):=by
 rw[List.drop_eq_getElem_cons (by rw[←Lib.size_eq];exact h)]
 rfl
theorem scan_nl {c:UInt8} {r:List UInt8} (line:Nat) (h:c.toNat=10):zN (c :: r) line=zN r (line+1):=by
 rw[zN,if_pos (by simp[h])]
theorem scan_blk {c:UInt8} {r:List UInt8} (line:Nat) (h:xS c=true) (h10:c.toNat≠10):zN (c :: r) line=zN r line:=by
 rw[zN,if_neg (by simpa using h10),if_pos h]
theorem scan_com {l:List UInt8} (line:Nat) (h:Lib.hasPrefix l [47,47]=true):zN l line=zN (l.drop (l.takeWhile (fun d=>d.toNat != 10)).length) line:=by
 have:=scan_gap l line
 unfold uk at this
 rw[if_pos h,nl_take]at this
 exact this
section
variable {w wr:World} {s:ByteArray} {p line:Nat} {ov:Value} {ts:List Tok} (hp:p<s.size) (hlp:line≤p+1) (htl:ts.length≤p) (hO:vT wr w.heap.size ov ts) (hb:Below w.heap.size w wr)
 (hsc:zN s.data.toList 1=(ts++(zN (s.data.toList.drop p) line).1,(zN (s.data.toList.drop p) line).2))
include hp hlp htl hO hb hsc
theorem ref_nl (X:Obj) (h:s[p].toNat=10):RefRel w s ov (.int .i64 ((line:Int)+1)) (.int .i64 ((p:Int)+1)) (wr.alloc X):=by
 have hb1:Below wr.heap.size wr (wr.alloc X):=(Below.refl _ _).alloc (Nat.le_refl _) _
 refine⟨p+1,line+1,ts,by go_num,by go_num,hp,by omega,by omega,hO.below hb1,hb.alloc hb.size _,?_⟩
 rw[hsc,kG s p hp,scan_nl line h]
theorem ref_blk (X:Obj) (h:xS s[p]=true) (h10:s[p].toNat≠10):RefRel w s ov (.int .i64 line) (.int .i64 ((p:Int)+1)) (wr.alloc X):=by
 have hb1:Below wr.heap.size wr (wr.alloc X):=(Below.refl _ _).alloc (Nat.le_refl _) _
 refine⟨p+1,line,ts,by go_num,rfl,hp,by omega,by omega,hO.below hb1,hb.alloc hb.size _,?_⟩
 rw[hsc,kG s p hp,scan_blk line h h10]
omit hp in
theorem ref_com (X:Obj) (q:Nat) (hq:q≤s.size) (hpq:p≤q) (h:Lib.hasPrefix (s.data.toList.drop p) [47,47]=true) (hw:((s.data.toList.drop p).takeWhile (fun d=>d.toNat != 10)).length=q-p):RefRel w s ov (.int .i64 line) (.int .i64 (q:Int)) (wr.alloc X):=by
 have hb1:Below wr.heap.size wr (wr.alloc X):=(Below.refl _ _).alloc (Nat.le_refl _) _
 refine⟨q,line,ts,rfl,rfl,hq,by omega,by omega,hO.below hb1,hb.alloc hb.size _,?_⟩
 rw[hsc,scan_com line h,hw,List.drop_drop,show p+(q-p)=q by omega]
end
theorem isBlk_of {c:UInt8} (h:(c.toNat:Int)=32∨(c.toNat:Int)=9∨(c.toNat:Int)=13):xS c=true∧c.toNat≠10:=by
 unfold xS
 refine⟨?_,by omega⟩
 simp
 omega
theorem com_prefix (s:ByteArray) (p:Nat) (h:p+1<s.size) (h1:(s[p].toNat:Int)=47) (h2:(s[p+1].toNat:Int)=47):Lib.hasPrefix (s.data.toList.drop p) [47,47]=true:=by
 rw[kG s p (by omega),kG s (p+1) h]
 have e1:s[p]=47:=UInt8.toNat_inj.1 (by show s[p].toNat=47;omega)
 have e2:s[p+1]=47:=UInt8.toNat_inj.1 (by show s[p+1].toNat=47;omega)
 rw[e1,e2]
 rfl
theorem com_done {s:ByteArray} {p q:Nat} (hpq:p≤q) (hq:q≤s.size) (h:∀ (j:Nat) b,j<q-p→(s.data.toList.drop p)[j]? =some b→(b.toNat != 10)=true) (h2:∀ hl:q<s.size,s[q].toNat=10):
 ((s.data.toList.drop p).takeWhile (fun d=>d.toNat != 10)).length=q-p:=by
 refine span_len _ _ (q-p) (by rw[List.length_drop,←Lib.size_eq];omega) h (fun b hb=>?_)
 have hlt:p+(q-p)<s.size:=by
  have:=(List.getElem?_eq_some_iff.1 hb).1
  rw[List.length_drop,←Lib.size_eq]at this
  omega
 rw[drop_get s p (q-p) hlt]at hb
 injection hb with hb
 have h3:=h2 (by omega)
 simp only[show p+(q-p)=q by omega]at hb
 rw[←hb,h3]
 rfl
theorem com_step {s:ByteArray} {p q:Nat} (hpq:p≤q) (hq:q<s.size) (h:∀ (j:Nat) b,j<q-p→(s.data.toList.drop p)[j]? =some b→(b.toNat != 10)=true) (h2:s[q].toNat≠10):
 ∀ (j:Nat) b,j<q+1-p→(s.data.toList.drop p)[j]? =some b→(b.toNat != 10)=true:=by
 intro j b hj hb
 by_cases e:j=q-p
 · subst e
   rw[drop_get s p (q-p) (by omega)]at hb
   injection hb with hb
   simp only[show p+(q-p)=q by omega]at hb
   rw[←hb]
   simpa using h2
 · exact h j b (by omega) hb
theorem span_head {s:ByteArray} {p n:Nat} (hp:p<s.size) (hn:ko (s.data.toList.drop p)=n) (h0:0<n):zd s[p]=true:=by
 rw[kG s p hp]at hn
 unfold ko at hn
 cases h:zd s[p] with
 | true=>rfl
 | false=>
   rw[List.takeWhile_cons_of_neg (by simp[h])]at hn
   simp at hn
   omega
theorem gap_none (s:ByteArray) (p:Nat) (hp:p<s.size) (hb:xS s[p]=false) (hc:¬ ((s[p].toNat:Int)=47∧∃ hl:p+1<s.size,(s[p+1].toNat:Int)=47)):uk (s.data.toList.drop p)=0:=by
 unfold uk
 split
 · rename_i h
   exfalso
   obtain⟨r,e⟩:=xT h
   have hl:p+1<s.size:=by
    have:=congrArg List.length e
    rw[List.length_drop,←Lib.size_eq]at this
    simp at this
    omega
   rw[kG s p hp,kG s (p+1) hl]at e
   injection e with e1 e2
   injection e2 with e2 e3
   exact hc ⟨by rw[e1];rfl,hl,by rw[e2];rfl⟩
 · rw[kG s p hp,List.takeWhile_cons_of_neg (by simp[hb])]
   rfl
theorem blk_none {c:UInt8} (h10:(c.toNat:Int)≠10) (h:¬ ((c.toNat:Int)=32∨(c.toNat:Int)=9∨(c.toNat:Int)=13)):xS c=false:=by
 unfold xS
 simp
 omega
theorem kind_word {t:List UInt8} (h:xJ t=true):jR t=some 2:=by unfold jR;rw[h];rfl
theorem kind_name {c:UInt8} {t:List UInt8} (h:xJ (c :: t)=false) (hl:vW c=true):jR (c :: t)=if kK (c :: t) then some 1 else none:=by
 unfold jR
 have hn:kO (c :: t)=false:=by
  unfold kO
  rw[List.all_cons,vO c hl]
  simp
 rw[h,hn]
 rfl
theorem kind_num {c:UInt8} {t:List UInt8} (h:xJ (c :: t)=false) (hl:vW c=false):jR (c :: t)=if kO (c :: t) then some 0 else none:=by
 unfold jR
 have hn:kK (c :: t)=false:=by
  unfold kK
  rw[List.headD_cons,hl]
  simp
 rw[h,hn]
 rfl
def kindR (b1 b2 b3:Bool):Option Int:=if b2 then some 2 else if b1 then (if b3 then some 1 else none) else if b3 then some 0 else none
theorem one_word {s:ByteArray} {p n:Nat} (hp:p<s.size) (hn:ko (s.data.toList.drop p)=n) (h0:0<n) (b1 b2 b3:Bool) (h1:v7 (s[p].toNat:Int)=b1) (h2:xJ (s.extract p (p+n)).data.toList=b2)
 (h3:b2=false→(if b1 then kK (s.extract p (p+n)).data.toList else kO (s.extract p (p+n)).data.toList)=b3):
 one (s.data.toList.drop p)=(kindR b1 b2 b3).map fun k=>(k,(s.extract p (p+n)).data.toList):=by
 have ht:(s.extract p (p+n)).data.toList=(s.data.toList.drop p).take n:=by rw[Lib.extract_data,show p+n-p=n by omega]
 rw[one_span (by omega),hn,←ht]
 congr 1
 obtain⟨m,rfl⟩:∃ m,n=m+1:=⟨n-1,by omega⟩
 rw[ht,kG s p hp,List.take_succ_cons]at h2 h3 ⊢
 rw[letZ_eq]at h1
 unfold kindR
 cases b2 with
 | true=>rw[kind_word h2];rfl
 | false=>
   have h3:=h3 rfl
   cases b1 with
   | true=>
     rw[kind_name h2 h1]
     rw[if_pos rfl]at h3
     rw[h3]
     rfl
   | false=>
     rw[kind_num h2 h1]
     rw[if_neg (by simp)]at h3
     rw[h3]
     rfl
theorem app_pre (wo:World) (B:Nat) (v:Value) (ts:List Tok) (k:Int) (tx:ByteArray) (line:Nat) (hO:vT wo B v ts) (hB:B≤wo.heap.size):
 (wo.alloc (.cells #[.int .i64 k,.string tx,.int .i64 line] 60)).ownsRow B 60 3 v ts.length (qk ts)∧
 (∀ j u,[Value.int .i64 k,.string tx,.int .i64 line][j]? =some u→(wo.alloc (.cells #[.int .i64 k,.string tx,.int .i64 line] 60)).cell? ((⟨wo.heap.size,0,none⟩:Addr).add j)=some u)∧
 B≤(wo.alloc (.cells #[.int .i64 k,.string tx,.int .i64 line] 60)).heap.size:=by
 have hb:Below wo.heap.size wo (wo.alloc (.cells #[.int .i64 k,.string tx,.int .i64 line] 60)):=(Below.refl _ _).alloc (Nat.le_refl _) _
 refine⟨yZ hO hb (Nat.le_refl _),fun j u hu=>?_,Nat.le_trans hB hb.size⟩
 rw[show (⟨wo.heap.size,0,none⟩:Addr).add j=⟨wo.heap.size,j,none⟩ by unfold Addr.add;split <;> simp_all]
 exact(cell_of_row _ wo.heap.size j _ _ (0,0) (heap_alloc_new wo _)).trans (by simpa using hu)
theorem com_ways (s:ByteArray) (p:Nat) (c:Int) (h:¬ (c=47∧∃ hl:p+1<s.size,(s[p+1].toNat:Int)=47)):
 (c == 47)=false∨(c=47∧decide ((p:Int)+1<s.size)=false)∨(c=47∧∃ d:Int,(d == 47)=false∧(p:Int)+1<s.size∧∀ w,(Instr.index 9 (.string s) (.int .i64 ((p:Int)+1))).run Tryd.prog w=.ok (.int .u8 d) w):=by
 by_cases h1:c=47
 · by_cases h2:p+1<s.size
   · refine .inr (.inr ⟨h1,_,?_,by omega,byte_at s (p+1) h2 _ _ (by omega) rfl⟩)
     simpa using fun e=>h ⟨h1,h2,e⟩
   · exact .inr (.inl ⟨h1,by simp;omega⟩)
 · exact .inl (by simpa using h1)
theorem ref_pre (wo:World) (B:Nat) (v:Value) (ts:List Tok) (k:Int) (tx:ByteArray) (line:Nat) (hO:vT wo B v ts) (hB:B≤wo.heap.size):
 ((wo.alloc (.cells #[.int .i64 k,.string tx,.int .i64 line] 60)).alloc (.cells #[.int .i64 k,.string tx,.int .i64 line] 60)).ownsRow B 60 3 v ts.length (qk ts)∧
 (∀ j u,[Value.int .i64 k,.string tx,.int .i64 line][j]? =some u→((wo.alloc (.cells #[.int .i64 k,.string tx,.int .i64 line] 60)).alloc (.cells #[.int .i64 k,.string tx,.int .i64 line] 60)).cell? ((⟨wo.heap.size+1,0,none⟩:Addr).add j)=some u)∧
 B≤((wo.alloc (.cells #[.int .i64 k,.string tx,.int .i64 line] 60)).alloc (.cells #[.int .i64 k,.string tx,.int .i64 line] 60)).heap.size:=by
 have hb:Below wo.heap.size wo ((wo.alloc (.cells #[.int .i64 k,.string tx,.int .i64 line] 60)).alloc (.cells #[.int .i64 k,.string tx,.int .i64 line] 60)):=
  ((Below.refl _ _).alloc (Nat.le_refl _) _).alloc (by simp) _
 refine⟨yZ hO hb (Nat.le_refl _),fun j u hu=>?_,Nat.le_trans hB hb.size⟩
 rw[show (⟨wo.heap.size+1,0,none⟩:Addr).add j=⟨wo.heap.size+1,j,none⟩ by unfold Addr.add;split <;> simp_all]
 exact(cell_of_row _ (wo.heap.size+1) j _ _ (0,0) (heap_alloc2_new wo _ _)).trans (by simpa using hu)
theorem ref_end {w wr w1:World} {s:ByteArray} {p line:Nat} {ov v1:Value} {ts:List Tok} {X:Obj} (hp:p=s.size) (hb:Below w.heap.size w wr) (hsc:zN s.data.toList 1=(ts++(zN (s.data.toList.drop p) line).1,(zN (s.data.toList.drop p) line).2))
 (hO:vT wr w.heap.size ov ts) (hown1:w1.ownsRow w.heap.size 60 3 v1 (ts.length+1) (qk ts++[.int .i64 3,.string ⟨#[]⟩,.int .i64 line])) (hg1:(wr.alloc X).grownBy w1 ov.ownBlock):
 xI w s.data.toList (.returned (.tuple #[v1,.int .i64 0,.int .i64 0])) w1:=by
 have hnil:s.data.toList.drop p=[]:=List.drop_eq_nil_of_le (by rw[←Lib.size_eq];omega)
 have e:zN s.data.toList 1=(ts++[⟨3,[],line⟩],none):=by rw[hsc,hnil,scan_end]
 have hb0:Below wr.heap.size wr (wr.alloc X):=(Below.refl _ _).alloc (Nat.le_refl _) _
 have hOW:vT (wr.alloc X) w.heap.size ov ts:=hO.below hb0
 have hb1:=hb.trans (hb0.mono hb.size)
 unfold xI
 rw[e]
 refine⟨hb1.grown hg1 hb1.size (fun k hk=>(own_lt hOW k hk).2),v1,rfl,?_⟩
 unfold vT
 rw[tokCells_snoc,List.length_append]
 exact hown1
section
variable {w wr:World} {s:ByteArray} {p line:Nat} {ov:Value} {ts:List Tok} (hp:p<s.size) (hlp:line≤p+1) (htl:ts.length≤p) (hO:vT wr w.heap.size ov ts) (hb:Below w.heap.size w wr)
 (hsc:zN s.data.toList 1=(ts++(zN (s.data.toList.drop p) line).1,(zN (s.data.toList.drop p) line).2)) (hgap:uk (s.data.toList.drop p)=0)
include hp hlp htl hO hb hsc hgap
theorem ref_tok {W:World} (k:Int) (tx:ByteArray) (hone:one (s.data.toList.drop p)=some (k,tx.data.toList)) (hbW:Below wr.heap.size wr W) (w1:World) (v1:Value)
 (hown1:w1.ownsRow w.heap.size 60 3 v1 (ts.length+1) (qk ts++[.int .i64 k,.string tx,.int .i64 line])) (hg1:W.grownBy w1 ov.ownBlock):
 RefRel w s v1 (.int .i64 line) (.int .i64 ((p:Int)+tx.size)) w1:=by
 obtain⟨h1,h2,h3⟩:=one_take hone
 rw[List.length_drop,←Lib.size_eq,←Lib.size_eq]at h3
 rw[←Lib.size_eq]at h2
 have hb1:Below w.heap.size w W:=hb.trans (hbW.mono hb.size)
 have hOW:vT W w.heap.size ov ts:=hO.below hbW
 refine⟨p+tx.size,line,ts++[⟨k,tx.data.toList,line⟩],by go_num,rfl,by omega,by omega,by rw[List.length_append];simp;omega,?_,hb1.grown hg1 hb1.size (fun k hk=>(own_lt hOW k hk).2),?_⟩
 · unfold vT
   rw[tokCells_snoc,List.length_append,Lib.mk_data]
   exact hown1
 · rw[hsc,scan_one hgap hone,List.drop_drop,←Lib.size_eq]
   simp
omit hlp htl hO in
theorem ref_bad (hone:one (s.data.toList.drop p)=none) (w1:World) (hb1:Below wr.heap.size wr w1):xI w s.data.toList (.returned (.tuple #[.slice none 0 0,.int .i64 20,.int .i64 (line:Int)])) w1:=by
 have hne:s.data.toList.drop p≠[]:=by rw[kG s p hp];simp
 have e:zN s.data.toList 1=(ts,some line):=by rw[hsc,scan_bad hgap hne hone];simp
 unfold xI
 rw[e]
 exact⟨hb.trans (hb1.mono hb.size),rfl⟩
end
set_option maxHeartbeats 4000000 in
theorem rtokens_any (s:ByteArray) (w:World) (h:s.size≤100000):Calls Tryd.prog 16 #[.string s] w (xI w s.data.toList):=by
 have hd:decide ((100000 :Int)<s.size)=false:=by simp;omega
 go_enter Tryd.func16,Tryd.ntmps16
 go_wp2
 go_loopw [5,6,7] (fun ov lv av wr=>RefRel w s ov lv av wr) (fun _ _ av _=>s.size-(intOf av).toNat)
 case atStart=>exact⟨0,1,[],rfl,rfl,Nat.zero_le _,by omega,Nat.zero_le _,vT.nil _ _,Below.refl _ _,rfl⟩
 case round=>
  obtain⟨p,line,ts,rfl,rfl,hp,hlp,htl,hO,hb,hsc⟩:=hrel
  have HO:=hid hO
  have HS:=hid hsc
  clear hO hsc
  obtain⟨wo,rfl⟩:∃ wo:World,wo=wr:=⟨_,rfl⟩
  by_cases hat:p<s.size
  · have hps:(p:Int)<s.size:=by omega
    go_upto_block 2 with(fail)
    go_cut [9] (fun nv wx=>wo.alloc (.cells #[.int .i64 0,.string ⟨#[]⟩,.int .i64 line] 60)=wx∧∃ n:Nat,p+n≤s.size∧nv=.int .i64 n∧ko (s.data.toList.drop p)=n)
    case first=>
     go_wp2_with (fail)
     go_loopg [9] s.size (fun g nv wx=>wo.alloc (.cells #[.int .i64 0,.string ⟨#[]⟩,.int .i64 line] 60)=wx∧∃ n:Nat,p+n≤s.size∧g=s.size-n∧nv=.int .i64 n∧∀ (j:Nat) b,j<n→(s.data.toList.drop p)[j]? =some b→zd b=true)
     case atStart=>exact⟨rfl,0,by omega,rfl,rfl,fun j b hj=>absurd hj (by omega)⟩
     case round=>
      obtain⟨rfl,n,hn,rfl,rfl,hall⟩:=hrel
      have HA:=hid hall
      clear hall
      by_cases hlt:p+n<s.size
      · obtain⟨c,hc⟩:∃ c:Int,(s[p+n].toNat:Int)=c:=⟨_,rfl⟩
        have hix:=byte_at s (p+n) hlt ((p:Int)+n) c (by omega) hc
        obtain⟨b1,hb1⟩:∃ b,v7 c=b:=⟨_,rfl⟩
        obtain⟨b2,hb2⟩:∃ b,uj c=b:=⟨_,rfl⟩
        have HE:Hid (zd s[p+n]=(b1 || b2)):=by unfold Hid zd;rw[←hb1,←hb2,←hc,letZ_eq,digZ_eq]
        have HB1:=hid hb1
        have HB2:=hid hb2
        clear hb1 hb2 hc
        cases b1 <;> cases b2
        all_goals
         go_wp2_with (first | (go_at_call 34;(with_reducible refine(qt _ _ HB1.out _).mono ?_);rintro e w' ⟨rfl,rfl⟩) | (go_at_call 35;(with_reducible refine(rdigit_is _ _ HB2.out _).mono ?_);rintro e w' ⟨rfl,rfl⟩))
        · go_meet
          exact⟨rfl,n,hn,rfl,span_drop (by omega) HA.out (fun _=>HE.out)⟩
        all_goals
         go_roundg (s.size-(n+1))
         case measure=>omega
         case rel=>exact⟨rfl,n+1,by omega,rfl,by go_num,drop_step hlt HA.out HE.out⟩
      · go_wp2
        go_meet
        exact⟨rfl,n,hn,rfl,span_drop (by omega) HA.out (fun hl=>absurd hl hlt)⟩
    case rest=>
     obtain⟨rfl,n,hn,rfl,hspan⟩:=hcut
     have HSP:=hid hspan
     clear hspan
     go_upto_block 4 with(fail)
     go_cut [6,7] (fun lv av wx=>lv=.int .i64 line∧av=.int .i64 p∧∃ (k:Int) (tx:ByteArray),uk (s.data.toList.drop p)=0∧one (s.data.toList.drop p)=some (k,tx.data.toList)∧Is wx wo.heap.size 60 #[.int .i64 k,.string tx,.int .i64 line]∧Below wo.heap.size wo wx)
     case first=>
      obtain⟨c,hc⟩:∃ c:Int,(s[p].toNat:Int)=c:=⟨_,rfl⟩
      have hix:=byte_at s p hat (p:Int) c rfl hc
      have HC:=hid hc
      clear hc
      by_cases h10:c=10
      · subst h10
        go_wp2
        go_roundw
        case rel=>exact ref_nl hat hlp htl HO.out hb HS.out _ (by have:=HC.out;omega)
        case measure=>simp[intOf];omega
      by_cases hbk:c=32∨c=9∨c=13
      · have HBK:Hid (xS s[p]=true∧s[p].toNat≠10):=isBlk_of (by rw[HC.out];exact hbk)
        rcases hbk with rfl | rfl | rfl
        all_goals
         go_wp2
         go_roundw
         case rel=>exact ref_blk hat hlp htl HO.out hb HS.out _ HBK.out.1 HBK.out.2
         case measure=>simp[intOf];omega
      have hn10:(c == 10)=false:=by simpa using h10
      have hn32:(c == 32)=false:=by simp;omega
      have hn9:(c == 9)=false:=by simp;omega
      have hn13:(c == 13)=false:=by simp;omega
      by_cases hcm:c=47∧∃ hl:p+1<s.size,(s[p+1].toNat:Int)=47
      · obtain⟨rfl,hl,h47⟩:=hcm
        have hix2:=byte_at s (p+1) hl ((p:Int)+1) 47 (by omega) h47
        have hl':(p:Int)+1<s.size:=by omega
        have HP:=hid (com_prefix s p hl HC.out h47)
        clear h47 h10 hbk hn10 hn32 hn9 hn13
        go_upto_block 5 with(fail)
        go_cut [7] (fun av wx=>wo.alloc (.cells #[.int .i64 0,.string ⟨#[]⟩,.int .i64 line] 60)=wx∧∃ q:Nat,p<q∧q≤s.size∧av=.int .i64 q∧((s.data.toList.drop p).takeWhile (fun d=>d.toNat != 10)).length=q-p)
        case first=>
         go_wp2_with (fail)
         go_loopg [7] (s.size-p) (fun g av wx=>wo.alloc (.cells #[.int .i64 0,.string ⟨#[]⟩,.int .i64 line] 60)=wx∧∃ q:Nat,p≤q∧q≤s.size∧g=s.size-q∧av=.int .i64 q∧∀ (j:Nat) b,j<q-p→(s.data.toList.drop p)[j]? =some b→(b.toNat != 10)=true)
         case atStart=>exact⟨rfl,p,Nat.le_refl _,hp,rfl,rfl,fun j b hj=>absurd hj (by omega)⟩
         case round=>
          obtain⟨rfl,q,hpq,hq,rfl,rfl,hall⟩:=hrel
          have HA:=hid hall
          clear hall
          by_cases hlt:q<s.size
          · obtain⟨d,hd'⟩:∃ d:Int,(s[q].toNat:Int)=d:=⟨_,rfl⟩
            have hixq:=byte_at s q hlt (q:Int) d rfl hd'
            have HD:=hid hd'
            clear hd'
            by_cases hd10:d=10
            · subst hd10
              have hpq':p<q:=by
               rcases Nat.lt_or_ge p q with h | h
               · exact h
               · obtain rfl:p=q:=by omega
                 have e1:=HC.out
                 have e2:=HD.out
                 omega
              go_wp2
              go_meet
              exact⟨rfl,q,hpq',hq,rfl,com_done hpq hq HA.out (fun _=>by have:=HD.out;omega)⟩
            · have hdn:(d != 10)=true:=by simpa using hd10
              go_wp2
              go_roundg (s.size-(q+1))
              case measure=>omega
              case rel=>exact⟨rfl,q+1,by omega,hlt,rfl,by go_num,com_step hpq hlt HA.out (by have:=HD.out;omega)⟩
          · go_wp2
            go_meet
            exact⟨rfl,q,by omega,hq,rfl,com_done hpq hq HA.out (fun hl=>absurd hl hlt)⟩
        case rest=>
         obtain⟨rfl,q,hpq,hq,rfl,hw⟩:=hcut
         have HW:=hid hw
         clear hw
         go_wp2
         go_roundw
         case rel=>exact ref_com hlp htl HO.out hb HS.out _ q hq (by omega) HP.out HW.out
         case measure=>simp[intOf];omega
      · have HGAP:=hid (gap_none s p hat (blk_none (by rw[HC.out];exact h10) (by rw[HC.out];exact hbk)) (by rw[HC.out];exact hcm))
        by_cases h0:0<n
        · have hn47:(c == 47)=false:=by
           have h1:=span_head hat HSP.out h0
           rw[Bool.eq_false_iff]
           intro e
           have e2:=HC.out
           simp at e
           simp[zd,vW,jG]at h1
           omega
          obtain⟨b1,hb1⟩:∃ b,v7 c=b:=⟨_,rfl⟩
          obtain⟨b2,hb2⟩:∃ b,xJ (s.extract p (p+n)).data.toList=b:=⟨_,rfl⟩
          obtain⟨b3,hb3⟩:∃ b,(b2=false→(if b1 then kK (s.extract p (p+n)).data.toList else kO (s.extract p (p+n)).data.toList)=b):=⟨_,fun _=>rfl⟩
          have HONE:=hid (one_word hat HSP.out h0 b1 b2 b3 (by rw[HC.out];exact hb1) hb2 hb3)
          have HB1:=hid hb1
          have HB2:=hid hb2
          have HB3:=hid hb3
          have HZ:Hid ((s.extract p (p+n)).size=n):=by unfold Hid;rw[Lib.size_eq,Lib.extract_data,List.length_take,List.length_drop,←Lib.size_eq];omega
          have HZ0:Hid (0<(s.extract p (p+n)).size):=by unfold Hid;rw[HZ.out];exact h0
          have HZ1:Hid ((s.extract p (p+n)).size≤281474976710656):=by unfold Hid;rw[HZ.out];omega
          have hzz:(s.extract p (p+n)).size≤100000:=by rw[HZ.out];omega
          clear hb1 hb2 hb3 hcm
          cases b1 <;> cases b2 <;> cases b3
          · have HB4:Hid (kO (s.extract p (p+n)).data.toList=false):=HB3.out rfl
            go_wp2_with (first | (go_at_call 34;(with_reducible refine(qt _ _ HB1.out _).mono ?_);rintro e w' ⟨rfl,rfl⟩) | (go_at_call 36;(with_reducible refine(kr _ _ HB2.out _).mono ?_);rintro e w' ⟨rfl,rfl⟩) | (go_at_call 38;(with_reducible refine(rnumber_all _ _ HZ0.out HZ1.out _ HB4.out).mono ?_);rintro e w' ⟨rfl,rfl⟩))
            go_ret3
            exact ref_bad hat hb HS.out HGAP.out HONE.out _ ((Below.refl _ _).alloc (Nat.le_refl _) _)
          · have HB4:Hid (kO (s.extract p (p+n)).data.toList=true):=HB3.out rfl
            go_wp2_with (first | (go_at_call 34;(with_reducible refine(qt _ _ HB1.out _).mono ?_);rintro e w' ⟨rfl,rfl⟩) | (go_at_call 36;(with_reducible refine(kr _ _ HB2.out _).mono ?_);rintro e w' ⟨rfl,rfl⟩) | (go_at_call 38;(with_reducible refine(rnumber_all _ _ HZ0.out HZ1.out _ HB4.out).mono ?_);rintro e w' ⟨rfl,rfl⟩))
            go_meet
            exact⟨rfl,rfl,_,_,HGAP.out,HONE.out,heap_alloc_new wo _,(Below.refl _ _).alloc (Nat.le_refl _) _⟩
          · go_wp2_with (first | (go_at_call 34;(with_reducible refine(qt _ _ HB1.out _).mono ?_);rintro e w' ⟨rfl,rfl⟩) | (go_at_call 36;(with_reducible refine(kr _ _ HB2.out _).mono ?_);rintro e w' ⟨rfl,rfl⟩))
            go_meet
            exact⟨rfl,rfl,_,_,HGAP.out,HONE.out,heap_alloc_new wo _,(Below.refl _ _).alloc (Nat.le_refl _) _⟩
          · go_wp2_with (first | (go_at_call 34;(with_reducible refine(qt _ _ HB1.out _).mono ?_);rintro e w' ⟨rfl,rfl⟩) | (go_at_call 36;(with_reducible refine(kr _ _ HB2.out _).mono ?_);rintro e w' ⟨rfl,rfl⟩))
            go_meet
            exact⟨rfl,rfl,_,_,HGAP.out,HONE.out,heap_alloc_new wo _,(Below.refl _ _).alloc (Nat.le_refl _) _⟩
          · have HB4:Hid (kK (s.extract p (p+n)).data.toList=false):=HB3.out rfl
            go_wp2_with (first | (go_at_call 34;(with_reducible refine(qt _ _ HB1.out _).mono ?_);rintro e w' ⟨rfl,rfl⟩) | (go_at_call 36;(with_reducible refine(kr _ _ HB2.out _).mono ?_);rintro e w' ⟨rfl,rfl⟩) | (go_at_call 37;(with_reducible refine(rname_is _ _ HB4.out _).mono ?_);rintro e w' ⟨rfl,rfl⟩))
            go_ret3
            exact ref_bad hat hb HS.out HGAP.out HONE.out _ ((Below.refl _ _).alloc (Nat.le_refl _) _)
          · have HB4:Hid (kK (s.extract p (p+n)).data.toList=true):=HB3.out rfl
            go_wp2_with (first | (go_at_call 34;(with_reducible refine(qt _ _ HB1.out _).mono ?_);rintro e w' ⟨rfl,rfl⟩) | (go_at_call 36;(with_reducible refine(kr _ _ HB2.out _).mono ?_);rintro e w' ⟨rfl,rfl⟩) | (go_at_call 37;(with_reducible refine(rname_is _ _ HB4.out _).mono ?_);rintro e w' ⟨rfl,rfl⟩))
            go_meet
            exact⟨rfl,rfl,_,_,HGAP.out,HONE.out,heap_alloc_new wo _,(Below.refl _ _).alloc (Nat.le_refl _) _⟩
          · go_wp2_with (first | (go_at_call 34;(with_reducible refine(qt _ _ HB1.out _).mono ?_);rintro e w' ⟨rfl,rfl⟩) | (go_at_call 36;(with_reducible refine(kr _ _ HB2.out _).mono ?_);rintro e w' ⟨rfl,rfl⟩))
            go_meet
            exact⟨rfl,rfl,_,_,HGAP.out,HONE.out,heap_alloc_new wo _,(Below.refl _ _).alloc (Nat.le_refl _) _⟩
          · go_wp2_with (first | (go_at_call 34;(with_reducible refine(qt _ _ HB1.out _).mono ?_);rintro e w' ⟨rfl,rfl⟩) | (go_at_call 36;(with_reducible refine(kr _ _ HB2.out _).mono ?_);rintro e w' ⟨rfl,rfl⟩))
            go_meet
            exact⟨rfl,rfl,_,_,HGAP.out,HONE.out,heap_alloc_new wo _,(Below.refl _ _).alloc (Nat.le_refl _) _⟩
        · obtain⟨t,ht⟩:∃ t:ByteArray,(⟨(kQ (s.extract p s.size).data.toList).toArray⟩:ByteArray)=t:=⟨_,rfl⟩
          have HT:=hid ht
          have htl2:t.data.toList=kQ (s.data.toList.drop p):=by rw[←ht,Lib.extract_to_end]
          have hn0:n=0:=by omega
          subst hn0
          have HSG:Hid (one (s.data.toList.drop p)=if t.data.toList≠[] then some (2,t.data.toList) else none):=by unfold Hid;rw[one_sign HSP.out,←htl2]
          clear ht htl2 h0
          by_cases ht0:t.size=0
          · have hnil:=yG t ht0
            have he:t.toList.isEmpty=true:=by rw[Lib.toList_data,hnil];rfl
            have he2:t.toList=[]:=by rw[Lib.toList_data,hnil]
            have HONE:Hid (one (s.data.toList.drop p)=none):=by unfold Hid;rw[HSG.out,hnil];rfl
            clear hnil ht0
            have hways:(c == 47)=false∨(c=47∧decide ((p:Int)+1<s.size)=false)∨(c=47∧∃ d:Int,(d == 47)=false∧(p:Int)+1<s.size∧∀ w,(Instr.index 9 (.string s) (.int .i64 ((p:Int)+1))).run Tryd.prog w=.ok (.int .u8 d) w):=com_ways s p c hcm
            rcases hways with hn47 | ⟨rfl,hpl⟩ | ⟨rfl,d,hd47,hpl,hix2⟩
            all_goals
             go_wp2_with (go_at_call 39;(with_reducible refine(rsign_is _ _ HT.out _).mono ?_);rintro e w2 ⟨rfl,hb2⟩;have HI2:=hid (Is.below (heap_alloc_new wo (.cells #[.int .i64 0,.string ⟨#[]⟩,.int .i64 line] 60)) hb2 (by simp));have k0:w2.cell? ⟨wo.heap.size,0,none⟩=some (.int .i64 0):=(HI2.out.cell 0).trans rfl;have k1:w2.cell? ⟨wo.heap.size,1,none⟩=some (.string ⟨#[]⟩):=(HI2.out.cell 1).trans rfl;have f0:=HI2.out.frozen 0;have f1:=HI2.out.frozen 1;have HB2:Hid (Below wo.heap.size wo w2):=((Below.refl _ _).alloc (Nat.le_refl _) _).trans (hb2.mono (by simp)))
             go_ret3
             exact ref_bad hat hb HS.out HGAP.out HONE.out _ ((HB2.out.setCell (p:=⟨wo.heap.size,0,none⟩) (Nat.le_refl _) _).setCell (p:=⟨wo.heap.size,1,none⟩) (Nat.le_refl _) _)
          · have hne:=j8 t (by omega)
            have he:t.toList.isEmpty=false:=by rw[Lib.toList_data];simpa using hne
            have HONE:Hid (one (s.data.toList.drop p)=some (2,t.data.toList)):=by unfold Hid;rw[HSG.out,if_pos hne]
            clear hne ht0
            have hways:(c == 47)=false∨(c=47∧decide ((p:Int)+1<s.size)=false)∨(c=47∧∃ d:Int,(d == 47)=false∧(p:Int)+1<s.size∧∀ w,(Instr.index 9 (.string s) (.int .i64 ((p:Int)+1))).run Tryd.prog w=.ok (.int .u8 d) w):=com_ways s p c hcm
            rcases hways with hn47 | ⟨rfl,hpl⟩ | ⟨rfl,d,hd47,hpl,hix2⟩
            all_goals
             go_wp2_with (go_at_call 39;(with_reducible refine(rsign_is _ _ HT.out _).mono ?_);rintro e w2 ⟨rfl,hb2⟩;have HI2:=hid (Is.below (heap_alloc_new wo (.cells #[.int .i64 0,.string ⟨#[]⟩,.int .i64 line] 60)) hb2 (by simp));have k0:w2.cell? ⟨wo.heap.size,0,none⟩=some (.int .i64 0):=(HI2.out.cell 0).trans rfl;have k1:w2.cell? ⟨wo.heap.size,1,none⟩=some (.string ⟨#[]⟩):=(HI2.out.cell 1).trans rfl;have f0:=HI2.out.frozen 0;have f1:=HI2.out.frozen 1;have HB2:Hid (Below wo.heap.size wo w2):=((Below.refl _ _).alloc (Nat.le_refl _) _).trans (hb2.mono (by simp)))
             go_meet
             exact⟨rfl,rfl,2,t,HGAP.out,HONE.out,(HI2.out.set 0 _).set 1 _,(HB2.out.setCell (p:=⟨wo.heap.size,0,none⟩) (Nat.le_refl _) _).setCell (p:=⟨wo.heap.size,1,none⟩) (Nat.le_refl _) _⟩
     case rest=>
      obtain⟨rfl,rfl,k,tx,hgap,hone,hI,hbx⟩:=hcut
      have HGAP:=hid hgap
      clear hgap
      have c0:wc.cell? ⟨wo.heap.size,0,none⟩=some (.int .i64 k):=(hI.cell 0).trans rfl
      have c1:wc.cell? ⟨wo.heap.size,1,none⟩=some (.string tx):=(hI.cell 1).trans rfl
      have c2:wc.cell? ⟨wo.heap.size,2,none⟩=some (.int .i64 line):=(hI.cell 2).trans rfl
      have hzz:tx.size≤100000:=by
       have:=(one_take hone).2.2
       rw[List.length_drop,←Lib.size_eq,←Lib.size_eq]at this
       omega
      have HZ:Hid (0<tx.size∧p+tx.size≤s.size):=by
       have h1:=(one_take hone).2
       rw[List.length_drop,←Lib.size_eq,←Lib.size_eq]at h1
       exact⟨h1.1,by omega⟩
      have HONE:=hid hone
      have HPRE:=hid (app_pre wc w.heap.size u5 ts k tx line (HO.out.below hbx) (Nat.le_trans hb.size hbx.size))
      obtain⟨i0,hi0,hz0,hz1,hz2⟩:=info_parts tok_info
      have HI0:=hid (And.intro hi0 (And.intro hz0 (And.intro hz1 hz2)))
      clear hone hI hi0 hz0 hz1 hz2
      go_wp2_with (at_builtin;refine wpList_append_own _ rfl (.tmp 158) (.tmp 160) _ rfl w.heap.size 60 i0 _ 3 32 Tryd.underlying52 HI0.out.1 HI0.out.2.1 HI0.out.2.2.1 HI0.out.2.2.2 rfl (by omega) u5 ts.length (qk ts) rfl (by exact HPRE.out.1) ⟨wc.heap.size,0,none⟩ 1 1 [.int .i64 k,.string tx,.int .i64 line] rfl rfl (by exact HPRE.out.2.1) (by simp[Value.oneCell']) (by simp only[maxLen];omega) (by omega) (by exact HPRE.out.2.2) ?_;intro v1 w1 hown1 hg1 _;have HO1:=hid hown1;have HG1:=hid hg1;clear hown1 hg1)
      go_roundw
      case rel=>exact ref_tok hat hlp htl HO.out hb HS.out HGAP.out k tx HONE.out (hbx.trans ((Below.refl _ _).alloc (Nat.le_refl _) _ |>.mono hbx.size)) _ _ HO1.out HG1.out
      case measure=>
       have hz:=HZ.out
       simp only[intOf]
       omega
  · have hpe:p=s.size:=by omega
    have hps:decide ((p:Int)<s.size)=false:=by simp;omega
    have HPRE:=hid (app_pre wo w.heap.size u5 ts 3 ⟨#[]⟩ line HO.out hb.size)
    obtain⟨i0,hi0,hz0,hz1,hz2⟩:=info_parts tok_info
    have HI0:=hid (And.intro hi0 (And.intro hz0 (And.intro hz1 hz2)))
    have HPE:=hid hpe
    clear hi0 hz0 hz1 hz2 hpe
    go_wp2_with (at_builtin;refine wpList_append_own _ rfl (.tmp 162) (.tmp 165) _ rfl w.heap.size 60 i0 _ 3 32 Tryd.underlying52 HI0.out.1 HI0.out.2.1 HI0.out.2.2.1 HI0.out.2.2.2 rfl (by omega) u5 ts.length (qk ts) rfl (by exact HPRE.out.1) ⟨wo.heap.size,0,none⟩ 1 1 [.int .i64 3,.string ⟨#[]⟩,.int .i64 line] rfl rfl (by exact HPRE.out.2.1) (by simp[Value.oneCell']) (by simp only[maxLen];omega) (by omega) (by exact HPRE.out.2.2) ?_;intro v1 w1 hown1 hg1 _;have HO1:=hid hown1;have HG1:=hid hg1;clear hown1 hg1)
    go_ret3
    exact ref_end HPE.out hb HS.out HO.out HO1.out HG1.out
theorem tl_nil2 (s:ByteArray):s.toList=[]↔s.size=0:=by
 rw[Lib.toList_data,Lib.size_eq]
 exact List.length_eq_zero_iff.symm
theorem isOne_any (op:Int) (w:World):Calls Tryd.prog 71 #[.int .i64 op] w fun e w'=>e=.returned (.bool (decide (20≤op∧op≤28)))∧w=w':=by
 go_enter Tryd.func71,Tryd.ntmps71
 go_wp2_with (fail)
 all_goals go_ret
 all_goals refine⟨zD ?_,rfl⟩
 all_goals go_light
 all_goals (rw[Bool.eq_iff_iff];simp;try omega)
def RxC (m:Nat):Prop:=∀ (B:Nat) (z:Int) (k op n:Int) (name:ByteArray) (args:List Ex) (A:Option Addr) (cap:Nat) (c:Bool) (w:World),z=(m:Int)→1≤m→m≤1000→xU (.mk k op n name args) m=c→B≤w.heap.size→kf B w (.slice A args.length cap) args→
 Calls Tryd.prog 62 #[.agg #[.int .i64 k,.int .i64 op,.int .i64 n,.string name,.slice A args.length cap],.int .i64 z] w fun e w'=>e=.returned (.bool c)∧Below w.heap.size w w'
theorem RxC.call {m:Nat} (h:RxC m) (B:Nat) (z:Int) (k op n:Int) (name:ByteArray) (args:List Ex) (A:Option Addr) (cap:Nat) (c:Bool) (w:World) (hz:z=(m:Int)) (h1:1≤m) (h2:m≤1000) (hc:xU (.mk k op n name args) m=c) (hB:B≤w.heap.size) (hs:kf B w (.slice A args.length cap) args):
 Calls Tryd.prog 62 #[.agg #[.int .i64 k,.int .i64 op,.int .i64 n,.string name,.slice A args.length cap],.int .i64 z] w fun e w'=>e=.returned (.bool c)∧Below w.heap.size w w':=h B z k op n name args A cap c w hz h1 h2 hc hB hs
set_option maxHeartbeats 8000000 in
theorem rexpr_step (m:Nat) (ih:∀ m',m'+1=m→RxC m'):RxC m:=by
 intro B z k op n name args A cap c w hz hm1 hm2 hc hB hs
 have HS:=hid hs
 have HI:=hid ih
 have HC:=hid hc
 have HZ:=hid hz
 have hn:args.length≤281474976710656:=by obtain⟨_,_,h,h2⟩:=hs.form;exact h2
 have hz0:1≤z:=by omega
 have hz1:z≤1000:=by omega
 clear hs ih hc hz
 go_enter Tryd.func62,Tryd.ntmps62
 go_wp2_with (fail)
 go_loopw [5] (fun iv wr=>∃ i:Nat,i≤args.length∧iv=.int .i64 i∧zo (args.take i) (m-1)=true∧Below (w.heap.size+1) (w.alloc (.cells #[.int .i64 k,.int .i64 op,.int .i64 n,.string name,.slice A args.length cap] 48)) wr) (fun iv _=>args.length-(intOf iv).toNat)
 case atStart=>exact⟨0,Nat.zero_le _,rfl,kb _,Below.refl _ _⟩
 case round=>
  obtain⟨i,hi,rfl,hall,hbw⟩:=hrel
  have HA:=hid hall
  clear hall
  have hsz:w.heap.size+1≤wr.heap.size:=by have:=hbw.size;simpa using this
  have hwr:Below w.heap.size w wr:=((Below.refl _ _).alloc (Nat.le_refl _) _).trans (hbw.mono (by omega))
  have hBr:B≤wr.heap.size:=by omega
  have hq:w.heap.size<wr.heap.size:=by omega
  have hrow:wr.heap[w.heap.size]? =some (.cells #[.int .i64 k,.int .i64 op,.int .i64 n,.string name,.slice A args.length cap] 48 (0,0)):=(hbw.block _ (by omega)).trans (heap_alloc_new w _)
  have k0:wr.cell? ⟨w.heap.size,0,none⟩=some (.int .i64 k):=by rw[Lib.cell_of_heap hrow];rfl
  have k1:wr.cell? ⟨w.heap.size,1,none⟩=some (.int .i64 op):=by rw[Lib.cell_of_heap hrow];rfl
  have k2:wr.cell? ⟨w.heap.size,2,none⟩=some (.int .i64 n):=by rw[Lib.cell_of_heap hrow];rfl
  have k3:wr.cell? ⟨w.heap.size,3,none⟩=some (.string name):=by rw[Lib.cell_of_heap hrow];rfl
  have k4:wr.cell? ⟨w.heap.size,4,none⟩=some (.slice A args.length cap):=by rw[Lib.cell_of_heap hrow];rfl
  clear hrow
  by_cases hlt:i<args.length
  · obtain⟨⟨kk,op',n',name',args'⟩,he⟩:∃ e,args[i]? =some e:=⟨_,List.getElem?_eq_getElem hlt⟩
    obtain⟨g,o,v,rfl,hg,q0,q1,q2,q3,q4,hs'⟩:=(HS.out.below (hwr.mono hB) (Nat.le_refl _)).cells he
    obtain⟨A',cap',rfl,_⟩:=hs'.form
    have HE:=hid he
    have HS':=hid hs'
    have hgs:g<wr.heap.size:=by omega
    clear he hs'
    by_cases hm:m=1
    · have hd:z<2:=by have:=HZ.out;omega
      have HF:Hid (c=false):=by
       unfold Hid
       rw[←HC.out,qY,yW HE.out (by rw[hm,qY];simp)]
       simp
      clear hm
      go_wp2_with (fail)
      go_ret
      exact⟨zD HF.out.symm,hwr⟩
    · have hd:¬ z<2:=by have:=HZ.out;omega
      obtain⟨m',rfl⟩:∃ m',m=m'+1:=⟨m-1,by omega⟩
      have HZ1:Hid (z-1=(m':Int)):=by have:=HZ.out;unfold Hid;omega
      have hm1':1≤m':=by omega
      have hm2':m'≤1000:=by omega
      obtain⟨b,hb⟩:∃ b,xU (.mk kk op' n' name' args') m'=b:=⟨_,rfl⟩
      have HBb:=hid hb
      clear hb hm
      cases b
      · have HF:Hid (c=false):=by
         unfold Hid
         rw[←HC.out,qY,Nat.add_sub_cancel,yW HE.out HBb.out]
         simp
        go_wp2_with (go_at_call 62;(with_reducible refine((HI.out m' rfl).call B _ _ _ _ _ _ _ _ _ _ HZ1.out hm1' hm2' HBb.out hBr HS'.out).mono ?_);rintro e w2 ⟨rfl,hx2⟩)
        go_ret
        exact⟨zD HF.out.symm,hwr.trans (hx2.mono (by omega))⟩
      · go_wp2_with (go_at_call 62;(with_reducible refine((HI.out m' rfl).call B _ _ _ _ _ _ _ _ _ _ HZ1.out hm1' hm2' HBb.out hBr HS'.out).mono ?_);rintro e w2 ⟨rfl,hx2⟩)
        go_roundw
        case rel=>exact⟨i+1,by omega,by go_num,by rw[exsOK_take HE.out,HA.out,Nat.add_sub_cancel,HBb.out];rfl,hbw.trans (hx2.mono hsz)⟩
        case measure=>simp[intOf];omega
  · have HCF:Hid (c=z6 k op n name args.length):=by
     have h1:zo args (m-1)=true:=by rw[←HA.out,List.take_of_length_le (by omega)]
     unfold Hid
     rw[←HC.out,qY,h1]
     have:decide (1≤m)=true:=by simpa using hm1
     rw[this]
     simp
    obtain⟨nb,hnb⟩:∃ nb,ud name=nb:=⟨_,rfl⟩
    obtain⟨ob,hob⟩:∃ ob,decide (20≤op∧op≤28)=ob:=⟨_,rfl⟩
    obtain⟨ln,hln⟩:∃ ln,args.length=ln:=⟨_,rfl⟩
    have HNB:=hid hnb
    have HOB:=hid hob
    rw[hln]at hn k4 HCF hlt
    have hli:i=ln:=by omega
    subst hli
    have HLN:=hid hln
    rw[hln]
    clear hnb hob hln hlt hm1 hm2 HS HI HC HA HZ hz0 hz1
    by_cases h1:k=1∨k=2∨k=8
    · rcases h1 with rfl | rfl | rfl
      all_goals
       go_wp2_with (go_at_call 37;(with_reducible refine(qL name _ HNB.out _).mono ?_);rintro e w2 ⟨rfl,rfl⟩)
       all_goals go_ret
       all_goals refine⟨zD ?_,hwr⟩
       all_goals rw[HCF.out]
       all_goals clear hbw hwr k0 k1 k2 k3 k4 HCF HOB HNB HLN
       all_goals go_light
       all_goals simp_all [z6,eB,tl_nil2]
       all_goals first | omega | (rw[Bool.eq_iff_iff];simp;omega) | (rw[Bool.eq_iff_iff];simp;done)
    by_cases h2:k=3∨k=6∨k=7
    · rcases h2 with rfl | rfl | rfl
      all_goals cases nb
      all_goals
       go_wp2_with (go_at_call 37;(with_reducible refine(qL name _ HNB.out _).mono ?_);rintro e w2 ⟨rfl,rfl⟩)
       all_goals go_ret
       all_goals refine⟨zD ?_,hwr⟩
       all_goals rw[HCF.out]
       all_goals have HNB':=HNB.out
       all_goals clear hbw hwr k0 k1 k2 k3 k4 HCF HOB HNB HLN
       all_goals go_light
       all_goals simp_all [z6]
       all_goals first | omega | (rw[Bool.eq_iff_iff];simp;omega) | (rw[Bool.eq_iff_iff];simp;done)
    by_cases h4:k=4
    · subst h4
      all_goals
       go_wp2_with (first
        | (go_at_call 37;(with_reducible refine(qL name _ HNB.out _).mono ?_);rintro e w2 ⟨rfl,rfl⟩)
        | (go_at_call 71;(with_reducible refine(isOne_any _ _).mono ?_);rintro e w2 ⟨rfl,rfl⟩))
       all_goals go_ret
       all_goals refine⟨zD ?_,hwr⟩
       all_goals rw[HCF.out]
       all_goals clear hbw hwr k0 k1 k2 k3 k4 HCF HOB HNB HLN
       all_goals go_light
       all_goals simp_all [z6,eB,tl_nil2]
       all_goals first | omega | (rw[Bool.eq_iff_iff];simp;omega) | (rw[Bool.eq_iff_iff];simp;done)
    by_cases h5:k=5
    · subst h5
      go_wp2_with (first
       | (go_at_call 37;(with_reducible refine(qL name _ HNB.out _).mono ?_);rintro e w2 ⟨rfl,rfl⟩)
       | (go_at_call 72;(with_reducible refine(rlevel_any _ _).mono ?_);rintro e w2 ⟨rfl,rfl⟩))
      all_goals go_ret
      all_goals refine⟨zD ?_,hwr⟩
      all_goals rw[HCF.out]
      all_goals clear hbw hwr k0 k1 k2 k3 k4 HCF HOB HNB HLN
      all_goals go_light
      all_goals simp_all [z6,eB,tl_nil2]
      all_goals first | omega | (rw[Bool.eq_iff_iff];simp;omega) | (rw[Bool.eq_iff_iff];simp;done)
    · have n1:(k == 1)=false:=by simp;omega
      have n2:(k == 2)=false:=by simp;omega
      have n3:(k == 3)=false:=by simp;omega
      have n4:(k == 4)=false:=by simp;omega
      have n5:(k == 5)=false:=by simp;omega
      have n6:(k == 6)=false:=by simp;omega
      have n7:(k == 7)=false:=by simp;omega
      have n8:(k == 8)=false:=by simp;omega
      have hf:Hid (c=false):=by
       unfold Hid
       rw[HCF.out]
       unfold z6
       rw[if_neg (by omega),if_neg (by omega),if_neg (by omega),if_neg (by omega),if_neg (by omega),if_neg (by omega),if_neg (by omega),if_neg (by omega)]
      clear h1 h2 h4 h5
      go_wp2_with (go_at_call 37;(with_reducible refine(qL name _ HNB.out _).mono ?_);rintro e w2 ⟨rfl,rfl⟩)
      all_goals go_ret
      all_goals exact⟨zD hf.out.symm,hwr⟩
theorem rexpr_all:∀ m,RxC m
 | 0=>rexpr_step 0 (fun _ h=>by omega)
 | m+1=>rexpr_step (m+1) (fun m' h=>by
    obtain rfl:m'=m:=by omega
    exact rexpr_all m')
end Go.Proofs.YtndgkfkieogplaaDoor
