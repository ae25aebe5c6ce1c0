import Derived.Test.YtfghofifjnbicaaGreatDoorAhZed
import Derived.Test.YtfghofifjnbicaaGreatDoorAhTokRefA
import Derived.Laws.IdiomStrings
import Derived.Lib.ItoaLen
import Derived.Deep.RegionHeld3
import Derived.Deep.RegionWith
import Derived.Test.YtfghofifjnbicaaGreatDoorAhTyGlo
import Derived.Test.YtfghofifjnbicaaGreatDoorAhTreeVals
import Derived.BigQuiet
import Derived.Deep.QuietTactic
set_option linter.unusedSimpArgs false
set_option linter.unusedVariables false
set_option maxRecDepth 100000
/- The contract of the document's digits. -/
namespace Go.Proofs.YtfghofifjnbicaaGreatDoor
open Lib (hid)
open Go.RowKit
theorem ur {a b:ByteArray} (h:a=b):Ending.returned (.string a)=.returned (.string b):=by rw[h]
theorem conv_one (d:Nat) (hd:d<10) (x:Int) (hx:x=48+(d:Int)) (w:World):
 (convert 22 9 (.slice (some ⟨w.heap.size,0,none⟩) 1 1)).run Tryz.prog (w.alloc (.cells #[.int .u8 x] 5))=.ok (.string ⟨#[UInt8.ofNat (48+d)]⟩) (w.alloc (.cells #[.int .u8 x] 5)):=by
 refine run_convert_bytes_back (P:=Tryz.prog) _ 22 9 5 ⟨w.heap.size,0,none⟩ 1 [UInt8.ofNat (48+d)] Tryz.underlying22 Tryz.underlying5 Tryz.underlying9 ?_;intro j hj;simp at hj;subst hj
 have e:((UInt8.ofNat (48+d)).toNat:Int)=48+(d:Int):=by
  rw[UInt8.toNat_ofNat'];have:(48+d) % 2 ^ 8=48+d:=Nat.mod_eq_of_lt (by omega);rw[this];omega
 simp[Addr.add,hx];omega
theorem yG (n:Nat) (h:n≤9223372036854775807):(Lib.decDigits n).length≤20:=by
 rw[Lib.decDigits_length];exact Lib.nDigits_le20 n (by omega)
set_option maxHeartbeats 1000000 in
theorem digits_any:∀ (k:Nat) (z:Int) (w:World),0≤z→z≤9223372036854775807→z.toNat≤k→
 Calls Tryz.prog 57 #[.int .i64 z] w fun e w'=>e=.returned (.string ⟨(Lib.decDigits z.toNat).toArray⟩)∧Below w.heap.size w w':=by
 intro k
 induction k with
 | zero=>
   intro z w h0 h1 hk;have hcv:=conv_one (z.toNat % 10) (by omega) (48+z % 10) (by omega) w;obtain⟨ch,hch⟩:∃ ch:UInt8,UInt8.ofNat (48+z.toNat % 10)=ch:=⟨_,rfl⟩
   rw[hch]at hcv;have HCH:=hid hch;clear hch;have hd:z<10:=by omega
   have HR:Hid (Lib.decDigits z.toNat=[ch]):=by unfold Hid;rw[←HCH.out,Lib.decDigits,dif_pos (by omega),Nat.mod_eq_of_lt (by omega)]
   go_enter Tryz.func57,Tryz.ntmps57;go_wp2_with (fail);go_ret;exact⟨ur (by rw[HR.out]),Zb.alloc Zr _⟩
 | succ k ih=>
   intro z w h0 h1 hk;have hcv:=conv_one (z.toNat % 10) (by omega) (48+z % 10) (by omega) w;obtain⟨ch,hch⟩:∃ ch:UInt8,UInt8.ofNat (48+z.toNat % 10)=ch:=⟨_,rfl⟩
   rw[hch]at hcv;have HCH:=hid hch;clear hch;by_cases hd:z<10
   · have HR:Hid (Lib.decDigits z.toNat=[ch]):=by unfold Hid;rw[←HCH.out,Lib.decDigits,dif_pos (by omega),Nat.mod_eq_of_lt (by omega)]
     clear ih;go_enter Tryz.func57,Tryz.ntmps57;go_wp2_with (fail);go_ret;exact⟨ur (by rw[HR.out]),Zb.alloc Zr _⟩
   · have HR:Hid (Lib.decDigits z.toNat=Lib.decDigits (z / 10).toNat++[ch]):=by
      unfold Hid;rw[←HCH.out,Lib.decDigits,dif_neg (by omega)];congr 2;omega
     have hq0:0≤z / 10:=by omega
     have hq1:z / 10≤9223372036854775807:=by omega
     have hq2:(z / 10).toNat≤k:=by omega
     have hlen:(⟨(Lib.decDigits (z / 10).toNat).toArray⟩:ByteArray).size+(⟨#[ch]⟩:ByteArray).size≤21:=by
      have:=yG (z / 10).toNat (by omega);show (Lib.decDigits (z / 10).toNat).length+1≤21;omega
     have HI:=hid ih;clear ih;go_enter Tryz.func57,Tryz.ntmps57;go_wp2_with (go_at_call 57;(with_reducible refine(HI.out (z / 10) _ hq0 hq1 hq2).mono ?_);rintro e w1 ⟨rfl,hb1⟩);go_ret;refine⟨ur ?_,(Zb.alloc Zr _).trans (hb1.mono (by simp))⟩;rw[HR.out];apply ByteArray.ext;simp[ByteArray.data_append]
def RdQ (B:Nat) (w:World) (q:ByteArray × ByteArray) (g o:Nat):Prop:=CellB B w g o (.string q.1)∧CellB B w g (o+1) (.string q.2)
def SlQ (B:Nat) (w:World) (v:Value) (l:kM):Prop:=xF v l.length (xn 2 (RdQ B w) l)
theorem SlQ.imp {B B':Nat} {w w':World} {v:Value} {l:kM} (h:SlQ B w v l) (hc:∀ g o u,CellB B w g o u→CellB B' w' g o u):SlQ B' w' v l:=xF.imp h fun g o=>xn.imp (fun _ _ _ hx=>⟨hc _ _ _ hx.1,hc _ _ _ hx.2⟩) l g o
theorem SlQ.below {B B':Nat} {w w':World} {v:Value} {l:kM} (h:SlQ B w v l) (hb:Below B w w') (hB:B≤B'):SlQ B' w' v l:=h.imp fun _ _ _ hc=>hc.below hb hB
theorem SlQ.form {B:Nat} {w:World} {v:Value} {l:kM} (h:SlQ B w v l):∃ A cap,v=.slice A l.length cap∧l.length≤281474976710656:=by
 obtain⟨A,cap,hv,hn,_⟩:=h;exact⟨A,cap,hv,hn⟩
theorem SlQ.cells {B:Nat} {w:World} {A:Option Addr} {n cap:Nat} {l:kM} (h:SlQ B w (.slice A n cap) l) {i:Nat} {q:ByteArray × ByteArray} (hi:l[i]? =some q):
 ∃ (g o:Nat),A=some ⟨g,o,none⟩∧g<B∧w.cell? ⟨g,o+i * 2,none⟩=some (.string q.1)∧w.cell? ⟨g,o+i * 2+1,none⟩=some (.string q.2):=by
 obtain⟨g,o,hA,hr⟩:=xF.elem h rfl (by have:=(List.getElem?_eq_some_iff.1 hi).1;omega);have:=xn.at l g o i q hr hi;exact⟨g,o,hA,this.1.1,this.1.2,this.2.2⟩
def NoQ (l:kM) (s:ByteArray) (k:Nat):Prop:=∀ (i:Nat) x,k≤i→l[i]? =some x→x.1≠s
theorem fndO_none {s:ByteArray}:∀ {l:kM},(∀ (i:Nat) x,l[i]? =some x→x.1≠s)→yD l s=none
 | [],_=>rfl
 | y :: r,h=>by
   rw[yD,fndO_none (l:=r) fun i x hx=>h (i+1) x (by simpa using hx)];exact if_neg (h 0 y rfl)
theorem fndO_some {s:ByteArray}:∀ {l:kM} {k:Nat} {x:ByteArray × ByteArray},NoQ l s (k+1)→l[k]? =some x→x.1=s→yD l s=some x.2
 | [],_,_,_,hk,_=>by simp at hk
 | y :: r,0,x,h,hk,e=>by
   simp at hk;subst hk;rw[yD,fndO_none (l:=r) fun i z hz=>h (i+1) z (by omega) (by simpa using hz)];exact if_pos e
 | y :: r,k+1,x,h,hk,e=>by
   rw[yD,fndO_some (l:=r) (k:=k) (fun i z hi hz=>h (i+1) z (by omega) (by simpa using hz)) (by simpa using hk) e]
theorem NoQ.start (l:kM) (s:ByteArray):NoQ l s l.length:=fun i x hi hx=>by have:=(List.getElem?_eq_some_iff.1 hx).1;omega
theorem NoQ.step {l:kM} {s:ByteArray} {k:Nat} {x:ByteArray × ByteArray} (h:NoQ l s (k+1)) (hk:l[k]? =some x) (e:x.1≠s):NoQ l s k:=fun i z hi hz=>by
 by_cases hik:i=k
 · subst hik
   rw[hk]at hz;injection hz with hz;exact hz ▸ e
 · exact h i z (by omega) hz
theorem NoQ.none {l:kM} {s:ByteArray} (h:NoQ l s 0):yD l s=Option.none:=fndO_none fun i x hx=>h i x (Nat.zero_le _) hx
set_option maxHeartbeats 1000000 in
theorem uP (B:Nat) (l:kM) (s t:ByteArray) (ht:fnd l s=t) (v:Value) (w:World) (hB:B≤w.heap.size) (hl:SlQ B w v l):
 Calls Tryz.prog 59 #[v,.string s] w fun e w'=>e=.returned (.string t)∧w=w':=by
 obtain⟨A,c,rfl,hn⟩:=hl.form;have HL:=hid hl;have HT:=hid ht;clear hl ht;go_enter Tryz.func59,Tryz.ntmps59;go_wp2_with (fail)
 go_loopw [5] (fun iv wr=>∃ k:Nat,k≤l.length∧iv=.int .i64 ((k:Int)-1)∧NoQ l s k∧wr=w) (fun iv _=>(intOf iv+1).toNat)
 case atStart=>exact⟨l.length,Nat.le_refl _,by go_num,NoQ.start _ _,rfl⟩
 case round=>
  obtain⟨k,hk,rfl,hno,rfl⟩:=hrel;have HN:=hid hno;clear hno;rcases k with _ | k
  · go_wp2_with (fail)
    go_ret;exact⟨by rw[←HT.out];unfold fnd;rw[HN.out.none];rfl,rfl⟩
  · have e:((k+1 :Nat):Int)-1=(k:Int):=by omega
    rw[e];obtain⟨x,hx⟩:∃ e,l[k]? =some e:=⟨_,List.getElem?_eq_getElem (by omega)⟩
    obtain⟨g,o,rfl,hg,q0,q1⟩:=HL.out.cells hx;have HX:=hid hx;have hgs:g<wr.heap.size:=by omega
    clear hx e;by_cases hs:x.1=s
    · have hd:=kU hs
      go_wp2_with (fail);go_ret;exact⟨by rw[←HT.out];unfold fnd;rw[fndO_some HN.out HX.out hs];rfl,rfl⟩
    · have hd:=kV hs
      go_wp2_with (fail);go_roundw
      case rel=>exact⟨k,by omega,by go_num,HN.out.step HX.out hs,trivial⟩
      case measure=>simp[intOf]
abbrev staO (n:Int):Obj:=.cells #[.int .i64 n] 67
theorem vN_app (n:Nat):(⟨#[118]⟩:ByteArray)++⟨(Lib.decDigits n).toArray⟩=vN n:=by
 apply ByteArray.ext;unfold vN;simp[ByteArray.data_append]
theorem rdig_n (n:Nat) (w:World) (hn:n≤9223372036854775807):Calls Tryz.prog 57 #[.int .i64 n] w fun e w'=>e=.returned (.string ⟨(Lib.decDigits n).toArray⟩)∧Below w.heap.size w w':=by
 have:=digits_any n (n:Int) w (by omega) (by omega) (by omega);rwa [Int.toNat_natCast]at this
set_option maxHeartbeats 1000000 in
theorem rnext_any (b n:Nat) (w:World) (h:w.heap[b]? =some (staO n)) (hn:n≤1000000000):
 Calls Tryz.prog 23 #[.pointer (some ⟨b,0,none⟩)] w fun e w'=>e=.returned (.string (vN n))∧OffB b w.heap.size w w'∧w'.heap[b]? =some (staO ((n+1 :Nat):Int)):=by
 have hb:b<w.heap.size:=zB h;have c0:w.cell? ⟨b,0,none⟩=some (.int .i64 n):=(Lib.cell_of_heap h 0).trans rfl;have cz:∀ o,w.frozen? ⟨b,o,none⟩=false:=fun o=>by simp[World.frozen?,h]
 have HH:=hid h
 have hlen:(⟨#[118]⟩:ByteArray).size+(⟨(Lib.decDigits n).toArray⟩:ByteArray).size≤21:=by
  have:=yG n (by omega);show 1+(Lib.decDigits n).length≤21;omega
 clear h;go_enter Tryz.func23,Tryz.ntmps23
 go_wp2_with (go_at_call 57;(with_reducible refine(rdig_n n _ (by omega)).mono ?_);rintro e w1 ⟨rfl,hb1⟩
              have HB1:=hid hb1
              clear hb1)
 go_ret;have hs:(w.setCell ⟨b,0,none⟩ (.int .i64 ((n:Int)+1))).heap.size=w.heap.size:=by simp[World.setCell]
 refine⟨ur (vN_app n),?_,?_⟩
 · exact((OffB.refl b w.heap.size w).setb hb 0 _).trans (OffB.of_below (HB1.out.mono (by rw[hs];exact Nat.le_refl _)) (by rw[hs];exact hb))
 · exact(HB1.out.block b (by rw[hs];exact hb)).trans (Lib.heap_setCell_same HH.out _)
abbrev mkO (v:Value) (a:Int):Obj:=.cells #[v,.int .i64 a] 76
def BytesH (N b:Nat) (w:World) (v:Value):Prop:=∃ A n c,v=.slice A n c∧n≤9223372036854775807∧∀ k,k<n→∃ g off,A=some ⟨g,off,none⟩∧g<N∧g≠b∧∃ z:Int,0≤z∧z≤255∧w.cell? ⟨g,off+k,none⟩=some (.int .u8 z)
theorem BytesH.off {N b:Nat} {w w':World} {v:Value} (h:BytesH N b w v) (ho:OffB b N w w'):BytesH N b w' v:=by
 obtain⟨A,n,c,rfl,hn,h1⟩:=h;refine⟨A,n,c,rfl,hn,fun k hk=>?_⟩;obtain⟨g,off,hA,hg,hb,z,h0,h2,h3⟩:=h1 k hk;exact⟨g,off,hA,hg,hb,z,h0,h2,(ho.cell hg hb).trans h3⟩
set_option maxHeartbeats 2000000 in
theorem pick_any (b a N:Nat) (v:Value) (q:Int) (w:World) (hx:w.heap[b]? =some (mkO v a)) (hv:BytesH N b w v) (hN:N≤w.heap.size) (ha:a≤1000000000) (hq:0<q) (hq2:q≤1000000):
 Calls Tryz.prog 61 #[.pointer (some ⟨b,0,none⟩),.int .i64 q] w fun e w'=>∃ r:Int,0≤r∧r<q∧e=.returned (.int .i64 r)∧OffB b w.heap.size w w'∧w'.heap[b]? =some (mkO v ((a+1 :Nat):Int)):=by
 obtain⟨A,n,c,rfl,hn,hc⟩:=hv;have hb:b<w.heap.size:=zB hx;obtain⟨⟨c0,c1⟩,cz⟩:=zE hx;have HX:=hid hx;have HC:=hid hc;have hx1:(w.setCell ⟨b,1,none⟩ (.int .i64 ((a:Int)+1))).heap[b]? =some (mkO (.slice A n c) ((a+1 :Nat):Int)):=Lib.heap_setCell_same hx _;have ho1:OffB b w.heap.size w (w.setCell ⟨b,1,none⟩ (.int .i64 ((a:Int)+1))):=(OffB.refl _ _ _).setb hb 1 _;have hz1:(w.setCell ⟨b,1,none⟩ (.int .i64 ((a:Int)+1))).heap.size=w.heap.size:=by simp[World.setCell]
 have HX1:=hid hx1;have HO1:=hid ho1;have HZ1:=hid hz1;clear hx hc hx1 ho1 hz1;go_enter Tryz.func61,Tryz.ntmps61;go_upto_region 2 with(fail);obtain⟨W1,hW1⟩:∃ x,x=w.setCell ⟨b,1,none⟩ (.int .i64 ((a:Int)+1)):=⟨_,rfl⟩
 rw[←hW1]at HX1 HO1 HZ1;simp only[←hW1];have hbW:b<W1.heap.size:=by rw[HZ1.out];exact hb
 obtain⟨⟨d0,d1⟩,dz⟩:=zE HX1.out;clear hW1;have hways:(n:Int)<(a:Int)+1∨¬ (n:Int)<(a:Int)+1∧(120 :Int)<(a:Int)+1∨¬ (n:Int)<(a:Int)+1∧¬ (120 :Int)<(a:Int)+1:=by omega
 rcases hways with h1 | ⟨h1,h2⟩ | ⟨h1,h2⟩
 · have e1:decide ((n:Int)<(a:Int)+1)=true:=by simpa using h1
   go_quiet (fail)
   go_wp2_with (fail);go_ret;exact⟨0,by omega,hq,rfl,HO1.out.drewN _,HX1.out⟩
 · have e1:decide ((n:Int)<(a:Int)+1)=false:=by simpa using h1
   have e2:decide ((120 :Int)<(a:Int)+1)=true:=by simpa using h2
   go_quiet (fail)
   go_wp2_with (fail);go_ret;exact⟨0,by omega,hq,rfl,HO1.out.drewN _,HX1.out⟩
 · have e1:decide ((n:Int)<(a:Int)+1)=false:=by simpa using h1
   have e2:decide ((120 :Int)<(a:Int)+1)=false:=by simpa using h2
   have hlt:a<n:=by omega
   obtain⟨g,off,rfl,hg,hgb,z,hz0,hz255,hz⟩:=HC.out a hlt;have hgW:g<W1.heap.size:=by rw[HZ1.out];omega
   have hzW:W1.cell? ⟨g,off+a,none⟩=some (.int .u8 z):=(HO1.out.cell (by omega) hgb).trans hz;have hm0:0≤z % q:=Int.emod_nonneg _ (by omega);have hm1:z % q<q:=Int.emod_lt_of_pos _ hq;have hla:(a:Int)<n:=by omega
   clear hz
   go_quiet (fail)
   go_wp2_with (fail)
   go_quiet (fail)
   go_wp2_with (fail);go_ret;exact⟨z % q,hm0,hm1,rfl,(HO1.out.drewN _).drewN _,HX1.out⟩
end Go.Proofs.YtfghofifjnbicaaGreatDoor
