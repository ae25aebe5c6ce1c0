import Derived.Test.YtfghofifjnbicaaGreatDoorAgTokRefA
import Derived.Laws.IdiomStrings
import Derived.Lib.ItoaLen
import Derived.Deep.RegionHeld3
import Derived.Deep.RegionWith
import Derived.Test.YtfghofifjnbicaaGreatDoorAgTyGlo
import Derived.Test.YtfghofifjnbicaaGreatDoorAgTreeVals
import Derived.Test.YtfghofifjnbicaaGreatDoorAgParTot
set_option linter.unusedSimpArgs false
set_option linter.unusedVariables false
set_option maxRecDepth 100000
/- The contract of the document's digits. -/
namespace Go.Proofs.YtfghofifjnbicaaGreatDoor
open Lib (hid)
open Go.RowKit
theorem uq {a b:ByteArray} (h:a=b):Ending.returned (.string a)=.returned (.string b):=by rw[h]
theorem conv_one (d:Nat) (hd:d<10) (x:Int) (hx:x=48+(d:Int)) (w:World):
 (convert 22 9 (.slice (some ⟨w.heap.size,0,none⟩) 1 1)).run Tryz.prog (w.alloc (.cells #[.int .u8 x] 5))=.ok (.string ⟨#[UInt8.ofNat (48+d)]⟩) (w.alloc (.cells #[.int .u8 x] 5)):=by
 refine run_convert_bytes_back (P:=Tryz.prog) _ 22 9 5 ⟨w.heap.size,0,none⟩ 1 [UInt8.ofNat (48+d)] Tryz.underlying22 Tryz.underlying5 Tryz.underlying9 ?_;intro j hj;simp at hj;subst hj
 have e:((UInt8.ofNat (48+d)).toNat:Int)=48+(d:Int):=by
  rw[UInt8.toNat_ofNat'];have:(48+d) % 2 ^ 8=48+d:=Nat.mod_eq_of_lt (by omega);rw[this];omega
 simp[Addr.add,hx];omega
theorem yH (n:Nat) (h:n≤9223372036854775807):(Lib.decDigits n).length≤20:=by
 rw[Lib.decDigits_length];exact Lib.nDigits_le20 n (by omega)
set_option maxHeartbeats 1000000 in
theorem digits_any:∀ (k:Nat) (z:Int) (w:World),0≤z→z≤9223372036854775807→z.toNat≤k→
 Calls Tryz.prog 57 #[.int .i64 z] w fun e w'=>e=.returned (.string ⟨(Lib.decDigits z.toNat).toArray⟩)∧Below w.heap.size w w':=by
 intro k
 induction k with
 | zero=>
   intro z w h0 h1 hk;have hcv:=conv_one (z.toNat % 10) (by omega) (48+z % 10) (by omega) w;obtain⟨ch,hch⟩:∃ ch:UInt8,UInt8.ofNat (48+z.toNat % 10)=ch:=⟨_,rfl⟩
   rw[hch]at hcv;have HCH:=hid hch;clear hch;have hd:z<10:=by omega
   have HR:Hid (Lib.decDigits z.toNat=[ch]):=by unfold Hid;rw[←HCH.out,Lib.decDigits,dif_pos (by omega),Nat.mod_eq_of_lt (by omega)]
   go_enter Tryz.func57,Tryz.ntmps57;go_wp2_with (fail);go_ret;exact⟨uq (by rw[HR.out]),(Below.refl _ _).alloc (Nat.le_refl _) _⟩
 | succ k ih=>
   intro z w h0 h1 hk;have hcv:=conv_one (z.toNat % 10) (by omega) (48+z % 10) (by omega) w;obtain⟨ch,hch⟩:∃ ch:UInt8,UInt8.ofNat (48+z.toNat % 10)=ch:=⟨_,rfl⟩
   rw[hch]at hcv;have HCH:=hid hch;clear hch;by_cases hd:z<10
   · have HR:Hid (Lib.decDigits z.toNat=[ch]):=by unfold Hid;rw[←HCH.out,Lib.decDigits,dif_pos (by omega),Nat.mod_eq_of_lt (by omega)]
     clear ih;go_enter Tryz.func57,Tryz.ntmps57;go_wp2_with (fail);go_ret;exact⟨uq (by rw[HR.out]),(Below.refl _ _).alloc (Nat.le_refl _) _⟩
   · have HR:Hid (Lib.decDigits z.toNat=Lib.decDigits (z / 10).toNat++[ch]):=by
      unfold Hid;rw[←HCH.out,Lib.decDigits,dif_neg (by omega)];congr 2;omega
     have hq0:0≤z / 10:=by omega
     have hq1:z / 10≤9223372036854775807:=by omega
     have hq2:(z / 10).toNat≤k:=by omega
     have hlen:(⟨(Lib.decDigits (z / 10).toNat).toArray⟩:ByteArray).size+(⟨#[ch]⟩:ByteArray).size≤21:=by
      have:=yH (z / 10).toNat (by omega);show (Lib.decDigits (z / 10).toNat).length+1≤21;omega
     have HI:=hid ih;clear ih;go_enter Tryz.func57,Tryz.ntmps57;go_wp2_with (go_at_call 57;(with_reducible refine(HI.out (z / 10) _ hq0 hq1 hq2).mono ?_);rintro e w1 ⟨rfl,hb1⟩);go_ret;refine⟨uq ?_,((Below.refl _ _).alloc (Nat.le_refl _) _).trans (hb1.mono (by simp))⟩;rw[HR.out];apply ByteArray.ext;simp[ByteArray.data_append]
def RdQ (B:Nat) (w:World) (q:ByteArray × ByteArray) (g o:Nat):Prop:=CellB B w g o (.string q.1)∧CellB B w g (o+1) (.string q.2)
def SlQ (B:Nat) (w:World) (v:Value) (l:ja):Prop:=xH v l.length (xp 2 (RdQ B w) l)
theorem SlQ.imp {B B':Nat} {w w':World} {v:Value} {l:ja} (h:SlQ B w v l) (hc:∀ g o u,CellB B w g o u→CellB B' w' g o u):SlQ B' w' v l:=xH.imp h fun g o=>xp.imp (fun _ _ _ hx=>⟨hc _ _ _ hx.1,hc _ _ _ hx.2⟩) l g o
theorem SlQ.below {B B':Nat} {w w':World} {v:Value} {l:ja} (h:SlQ B w v l) (hb:Below B w w') (hB:B≤B'):SlQ B' w' v l:=h.imp fun _ _ _ hc=>hc.below hb hB
theorem SlQ.form {B:Nat} {w:World} {v:Value} {l:ja} (h:SlQ B w v l):∃ A cap,v=.slice A l.length cap∧l.length≤281474976710656:=by
 obtain⟨A,cap,hv,hn,_⟩:=h;exact⟨A,cap,hv,hn⟩
theorem SlQ.cells {B:Nat} {w:World} {A:Option Addr} {n cap:Nat} {l:ja} (h:SlQ B w (.slice A n cap) l) {i:Nat} {q:ByteArray × ByteArray} (hi:l[i]? =some q):
 ∃ (g o:Nat),A=some ⟨g,o,none⟩∧g<B∧w.cell? ⟨g,o+i * 2,none⟩=some (.string q.1)∧w.cell? ⟨g,o+i * 2+1,none⟩=some (.string q.2):=by
 obtain⟨g,o,hA,hr⟩:=xH.elem h rfl (by have:=(List.getElem?_eq_some_iff.1 hi).1;omega);have:=xp.at l g o i q hr hi;exact⟨g,o,hA,this.1.1,this.1.2,this.2.2⟩
def NoQ (l:ja) (s:ByteArray) (k:Nat):Prop:=∀ (i:Nat) x,k≤i→l[i]? =some x→x.1≠s
theorem fndO_none {s:ByteArray}:∀ {l:ja},(∀ (i:Nat) x,l[i]? =some x→x.1≠s)→xB l s=none
 | [],_=>rfl
 | y :: r,h=>by
   rw[xB,fndO_none (l:=r) fun i x hx=>h (i+1) x (by simpa using hx)];exact if_neg (h 0 y rfl)
theorem fndO_some {s:ByteArray}:∀ {l:ja} {k:Nat} {x:ByteArray × ByteArray},NoQ l s (k+1)→l[k]? =some x→x.1=s→xB l s=some x.2
 | [],_,_,_,hk,_=>by simp at hk
 | y :: r,0,x,h,hk,e=>by
   simp at hk;subst hk;rw[xB,fndO_none (l:=r) fun i z hz=>h (i+1) z (by omega) (by simpa using hz)];exact if_pos e
 | y :: r,k+1,x,h,hk,e=>by
   rw[xB,fndO_some (l:=r) (k:=k) (fun i z hi hz=>h (i+1) z (by omega) (by simpa using hz)) (by simpa using hk) e]
theorem NoQ.start (l:ja) (s:ByteArray):NoQ l s l.length:=fun i x hi hx=>by have:=(List.getElem?_eq_some_iff.1 hx).1;omega
theorem NoQ.step {l:ja} {s:ByteArray} {k:Nat} {x:ByteArray × ByteArray} (h:NoQ l s (k+1)) (hk:l[k]? =some x) (e:x.1≠s):NoQ l s k:=fun i z hi hz=>by
 by_cases hik:i=k
 · subst hik
   rw[hk]at hz;injection hz with hz;exact hz ▸ e
 · exact h i z (by omega) hz
theorem NoQ.none {l:ja} {s:ByteArray} (h:NoQ l s 0):xB l s=Option.none:=fndO_none fun i x hx=>h i x (Nat.zero_le _) hx
set_option maxHeartbeats 1000000 in
theorem uR (B:Nat) (l:ja) (s t:ByteArray) (ht:fnd l s=t) (v:Value) (w:World) (hB:B≤w.heap.size) (hl:SlQ B w v l):
 Calls Tryz.prog 59 #[v,.string s] w fun e w'=>e=.returned (.string t)∧w=w':=by
 obtain⟨A,c,rfl,hn⟩:=hl.form;have HL:=hid hl;have HT:=hid ht;clear hl ht;go_enter Tryz.func59,Tryz.ntmps59;go_wp2_with (fail)
 go_loopw [5] (fun iv wr=>∃ k:Nat,k≤l.length∧iv=.int .i64 ((k:Int)-1)∧NoQ l s k∧wr=w) (fun iv _=>(intOf iv+1).toNat)
 case atStart=>exact⟨l.length,Nat.le_refl _,by go_num,NoQ.start _ _,rfl⟩
 case round=>
  obtain⟨k,hk,rfl,hno,rfl⟩:=hrel;have HN:=hid hno;clear hno;rcases k with _ | k
  · go_wp2_with (fail)
    go_ret;exact⟨by rw[←HT.out];unfold fnd;rw[HN.out.none];rfl,rfl⟩
  · have e:((k+1 :Nat):Int)-1=(k:Int):=by omega
    rw[e];obtain⟨x,hx⟩:∃ e,l[k]? =some e:=⟨_,List.getElem?_eq_getElem (by omega)⟩
    obtain⟨g,o,rfl,hg,q0,q1⟩:=HL.out.cells hx;have HX:=hid hx;have hgs:g<wr.heap.size:=by omega
    clear hx e;by_cases hs:x.1=s
    · have hd:=kW hs
      go_wp2_with (fail);go_ret;exact⟨by rw[←HT.out];unfold fnd;rw[fndO_some HN.out HX.out hs];rfl,rfl⟩
    · have hd:=kY hs
      go_wp2_with (fail);go_roundw
      case rel=>exact⟨k,by omega,by go_num,HN.out.step HX.out hs,trivial⟩
      case measure=>simp[intOf]
abbrev staO (n:Int):Obj:=.cells #[.int .i64 n] 67
theorem vN_app (n:Nat):(⟨#[118]⟩:ByteArray)++⟨(Lib.decDigits n).toArray⟩=vN n:=by
 apply ByteArray.ext;unfold vN;simp[ByteArray.data_append]
theorem rdig_n (n:Nat) (w:World) (hn:n≤9223372036854775807):Calls Tryz.prog 57 #[.int .i64 n] w fun e w'=>e=.returned (.string ⟨(Lib.decDigits n).toArray⟩)∧Below w.heap.size w w':=by
 have:=digits_any n (n:Int) w (by omega) (by omega) (by omega);rwa [Int.toNat_natCast]at this
set_option maxHeartbeats 1000000 in
theorem rnext_any (b n:Nat) (w:World) (h:w.heap[b]? =some (staO n)) (hn:n≤1000000000):
 Calls Tryz.prog 23 #[.pointer (some ⟨b,0,none⟩)] w fun e w'=>e=.returned (.string (vN n))∧OffB b w.heap.size w w'∧w'.heap[b]? =some (staO ((n+1 :Nat):Int)):=by
 have hb:b<w.heap.size:=zB h;have c0:w.cell? ⟨b,0,none⟩=some (.int .i64 n):=(Lib.cell_of_heap h 0).trans rfl;have cz:∀ o,w.frozen? ⟨b,o,none⟩=false:=fun o=>by simp[World.frozen?,h]
 have HH:=hid h
 have hlen:(⟨#[118]⟩:ByteArray).size+(⟨(Lib.decDigits n).toArray⟩:ByteArray).size≤21:=by
  have:=yH n (by omega);show 1+(Lib.decDigits n).length≤21;omega
 clear h;go_enter Tryz.func23,Tryz.ntmps23
 go_wp2_with (go_at_call 57;(with_reducible refine(rdig_n n _ (by omega)).mono ?_);rintro e w1 ⟨rfl,hb1⟩
              have HB1:=hid hb1
              clear hb1)
 go_ret;have hs:(w.setCell ⟨b,0,none⟩ (.int .i64 ((n:Int)+1))).heap.size=w.heap.size:=by simp[World.setCell]
 refine⟨uq (vN_app n),?_,?_⟩
 · exact((OffB.refl b w.heap.size w).setb hb 0 _).trans (OffB.of_below (HB1.out.mono (by rw[hs];exact Nat.le_refl _)) (by rw[hs];exact hb))
 · exact(HB1.out.block b (by rw[hs];exact hb)).trans (Lib.heap_setCell_same HH.out _)
theorem bind_ok {α β:Type} (a:α) (r:List Tok) (f:α→List Tok→PR β):(PR.ok a r).bind f=f a r:=rfl
theorem len0 {α:Type} {l:List α} (h:l.length=0):l=[]:=List.eq_nil_of_length_eq_zero h
end Go.Proofs.YtfghofifjnbicaaGreatDoor
