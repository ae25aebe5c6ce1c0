import Derived.Test.YtfghofifjnbicaaGreatDoorAhParTot
import Derived.Test.YtfghofifjnbicaaGreatDoorAhParLex
set_option linter.unusedSimpArgs false
set_option linter.unusedVariables false
set_option maxRecDepth 100000
/- The text of a valid program is parsed to it, by the plain parser: no Go, no program. -/
namespace Go.Proofs.YtfghofifjnbicaaGreatDoor
open Lib (hid)
open Go.RowKit
theorem kindT_no3 {t:List UInt8} {k:Int} (h:kw t=some k):k≠3:=by
 unfold kw at h;split at h
 · injection h with h
   omega
 · split at h
   · injection h with h
     omega
   · split at h
     · injection h with h
       omega
     · cases h
theorem one_no3 {l t:List UInt8} {k:Int} (h:one l=some (k,t)):k≠3:=by
 unfold one at h;split at h
 · cases hk:kw (l.takeWhile qH) with
   | none=>rw[hk]at h;cases h
   | some j=>
     rw[hk]at h;injection h with h;injection h with h _;exact h ▸ kindT_no3 hk
 · split at h
   · injection h with h
     injection h with h _;omega
   · cases h
theorem jQ:∀ (n:Nat) (l:List UInt8) (line:Nat) (ts:List Tok),l.length≤n→zq l line=(ts,none)→ze ts
 | _,[],line,ts,_,h=>by
   rw[zq]at h;injection h with h _;exact⟨[],⟨3,[],line⟩,h.symm,rfl,fun t ht=>by cases ht⟩
 | 0,c :: r,line,ts,h,_=>by simp at h
 | n+1,c :: r,line,ts,hl,h=>by
   simp only[List.length_cons]at hl;rw[zq]at h;split at h
   · exact jQ n r _ ts (by omega) h
   · split at h
     · exact jQ n r _ ts (by omega) h
     · split at h
       · have h1:=List.IsSuffix.length_le (List.dropWhile_suffix (l:=r) (fun d:UInt8=>d.toNat != 10))
         exact jQ n _ _ ts (by omega) h
       · split at h
         · cases h
         · rename_i k t hone
           have h1:(r.drop (t.length-1)).length≤r.length:=by rw[List.length_drop];omega
           injection h with e1 e2;obtain⟨i,e,he,hk,hi⟩:=jQ n (r.drop (t.length-1)) line (zq (r.drop (t.length-1)) line).1 (by omega) (by rw[←e2]);refine⟨⟨k,t,line⟩ :: i,e,by rw[←e1,he];rfl,hk,fun u hu=>?_⟩;rcases List.mem_cons.1 hu with rfl | hu
           · exact one_no3 hone
           · exact hi u hu
def EX (e:Ex):Nat:=(exT e).length+2
theorem kindT_dig {t:List UInt8} (h:kw t=some 0):t.all kO=true:=by
 unfold kw at h;split at h
 · injection h with h
   omega
 · split at h
   · injection h with h
     omega
   · split at h
     · rename_i hn
       simp only[jm,Bool.and_eq_true,decide_eq_true_eq]at hn;exact hn.1.1.2
     · cases h
theorem one_tk {l t:List UInt8} {k:Int} (h:one l=some (k,t)):1≤t.length∧t.length≤l.length∧(k=0→t.all kO=true):=by
 unfold one at h;split at h
 · rename_i hne
   cases hk:kw (l.takeWhile qH) with
   | none=>rw[hk]at h;cases h
   | some j=>
     rw[hk]at h;injection h with h;injection h with h1 h2;subst h1 h2;exact⟨List.length_pos_iff.2 hne,(List.takeWhile_prefix _).length_le,fun e=>kindT_dig (e ▸ hk)⟩
 · split at h
   · rename_i hne
     injection h with h;injection h with h1 h2;subst h1 h2;refine⟨List.length_pos_iff.2 hne,?_,fun e=>by omega⟩;unfold kb;cases hf:yt.find? (fun t=>Lib.hasPrefix l t) with
     | none=>simp
     | some u=>
       have hp:=List.find?_some hf;exact(List.isPrefixOf_iff_prefix.1 hp).length_le
   · cases h
end Go.Proofs.YtfghofifjnbicaaGreatDoor
