import Derived.Test.YtfghofifjnbicaaGreatDoorAiTokRefA
import Derived.Laws.IdiomStrings
import Derived.Lib.ItoaLen
import Derived.Deep.RegionHeld3
import Derived.Deep.RegionWith
import Derived.Test.YtfghofifjnbicaaGreatDoorAiTyGlo
import Derived.Test.YtfghofifjnbicaaGreatDoorAiTreeVals
import Derived.BigQuiet
import Derived.Deep.QuietTactic
set_option linter.unusedSimpArgs false
set_option linter.unusedVariables false
set_option maxRecDepth 100000
/- The contract of the document's digits. -/
namespace Go.Proofs.YtfghofifjnbicaaGreatDoor
open Lib (hid)
open Go.RowKit
theorem ret_str {a b:ByteArray} (h:a=b):Ending.returned (.string a)=.returned (.string b):=by rw[h]
theorem decDigits_len (n:Nat) (h:n≤9223372036854775807):(Lib.decDigits n).length≤20:=by
 rw[Lib.decDigits_length];exact Lib.nDigits_le20 n (by omega)
abbrev staO (n:Int):Obj:=.cells #[.int .i64 n] 67
theorem vN_app (n:Nat):(⟨#[118]⟩:ByteArray)++⟨(Lib.decDigits n).toArray⟩=vN n:=by
 apply ByteArray.ext;unfold vN;simp[ByteArray.data_append]
abbrev mkO (v:Value) (a:Int):Obj:=.cells #[v,.int .i64 a] 76
def BytesH (N b:Nat) (w:World) (v:Value):Prop:=∃ A n c,v=.slice A n c∧n≤9223372036854775807∧∀ k,k<n→∃ g off,A=some ⟨g,off,none⟩∧g<N∧g≠b∧∃ z:Int,0≤z∧z≤255∧w.cell? ⟨g,off+k,none⟩=some (.int .u8 z)
theorem BytesH.off {N b:Nat} {w w':World} {v:Value} (h:BytesH N b w v) (ho:OffB b N w w'):BytesH N b w' v:=by
 obtain⟨A,n,c,rfl,hn,h1⟩:=h;refine⟨A,n,c,rfl,hn,fun k hk=>?_⟩;obtain⟨g,off,hA,hg,hb,z,h0,h2,h3⟩:=h1 k hk;exact⟨g,off,hA,hg,hb,z,h0,h2,(ho.cell hg hb).trans h3⟩
set_option maxHeartbeats 2000000 in
theorem pick_any (b a N:Nat) (v:Value) (q:Int) (w:World) (hx:w.heap[b]? =some (mkO v a)) (hv:BytesH N b w v) (hN:N≤w.heap.size) (ha:a≤1000000000) (hq:0<q) (hq2:q≤1000000):
 Calls Tryz.prog 61 #[.pointer (some ⟨b,0,none⟩),.int .i64 q] w fun e w'=>∃ r:Int,0≤r∧r<q∧e=.returned (.int .i64 r)∧OffB b w.heap.size w w'∧w'.heap[b]? =some (mkO v ((a+1 :Nat):Int)):=by
 obtain⟨A,n,c,rfl,hn,hc⟩:=hv;have hb:b<w.heap.size:=zB hx;obtain⟨⟨c0,c1⟩,cz⟩:=zF hx;have HX:=hid hx;have HC:=hid hc;have hx1:(w.setCell ⟨b,1,none⟩ (.int .i64 ((a:Int)+1))).heap[b]? =some (mkO (.slice A n c) ((a+1 :Nat):Int)):=Lib.heap_setCell_same hx _;have ho1:OffB b w.heap.size w (w.setCell ⟨b,1,none⟩ (.int .i64 ((a:Int)+1))):=(OffB.refl _ _ _).setb hb 1 _;have hz1:(w.setCell ⟨b,1,none⟩ (.int .i64 ((a:Int)+1))).heap.size=w.heap.size:=by simp[World.setCell]
 have HX1:=hid hx1;have HO1:=hid ho1;have HZ1:=hid hz1;clear hx hc hx1 ho1 hz1;go_enter Tryz.func61,Tryz.ntmps61;go_upto_region 2 with(fail);obtain⟨W1,hW1⟩:∃ x,x=w.setCell ⟨b,1,none⟩ (.int .i64 ((a:Int)+1)):=⟨_,rfl⟩
 rw[←hW1]at HX1 HO1 HZ1;simp only[←hW1];have hbW:b<W1.heap.size:=by rw[HZ1.out];exact hb
 obtain⟨⟨d0,d1⟩,dz⟩:=zF HX1.out;clear hW1;have hways:(n:Int)<(a:Int)+1∨¬ (n:Int)<(a:Int)+1∧(120 :Int)<(a:Int)+1∨¬ (n:Int)<(a:Int)+1∧¬ (120 :Int)<(a:Int)+1:=by omega
 rcases hways with h1 | ⟨h1,h2⟩ | ⟨h1,h2⟩
 · have e1:decide ((n:Int)<(a:Int)+1)=true:=by simpa using h1
   go_quiet (fail)
   go_wp2_with (fail);go_ret;exact⟨0,by omega,hq,rfl,HO1.out.drewN _,HX1.out⟩
 · have e1:decide ((n:Int)<(a:Int)+1)=false:=by simpa using h1
   have e2:decide ((120 :Int)<(a:Int)+1)=true:=by simpa using h2
   go_quiet (fail)
   go_wp2_with (fail);go_ret;exact⟨0,by omega,hq,rfl,HO1.out.drewN _,HX1.out⟩
 · have e1:decide ((n:Int)<(a:Int)+1)=false:=by simpa using h1
   have e2:decide ((120 :Int)<(a:Int)+1)=false:=by simpa using h2
   have hlt:a<n:=by omega
   obtain⟨g,off,rfl,hg,hgb,z,hz0,hz255,hz⟩:=HC.out a hlt;have hgW:g<W1.heap.size:=by rw[HZ1.out];omega
   have hzW:W1.cell? ⟨g,off+a,none⟩=some (.int .u8 z):=(HO1.out.cell (by omega) hgb).trans hz;have hm0:0≤z % q:=Int.emod_nonneg _ (by omega);have hm1:z % q<q:=Int.emod_lt_of_pos _ hq;have hla:(a:Int)<n:=by omega
   clear hz
   go_quiet (fail)
   go_wp2_with (fail)
   go_quiet (fail)
   go_wp2_with (fail);go_ret;exact⟨z % q,hm0,hm1,rfl,(HO1.out.drewN _).drewN _,HX1.out⟩
end Go.Proofs.YtfghofifjnbicaaGreatDoor
