import Derived.Test.YtndgkfkieogplaaDoorAgTyFo
import Derived.BigQuiet
import Derived.Deep.RegionHeld3
import Derived.Deep.QuietTactic
import Derived.Test.YtndgkfkieogplaaDoorAgParBlanks
import Derived.Test.YtndgkfkieogplaaDoorAgTreeVals
set_option linter.unusedSimpArgs false
set_option linter.unusedVariables false
set_option maxRecDepth 100000
/- The contract of the checker's args, of package types: expressions that all should be of one type. -/
namespace Go.Proofs.YtndgkfkieogplaaDoor
open Lib (hid)
open Go.RowKit
def kW (p:Pr) (vars:List Pa):List Ex→Int→Int
 | [],_=>0
 | e :: r,t=>if qb p vars e t≠0 then qb p vars e t else kW p vars r t
abbrev ckO (v0 v1:Value) (g n:Int):Obj:=.cells #[v0,v1,.int .i64 g,.int .i64 n] 94
theorem zR {w:World} {g:Nat} {c0 c1 c2 c3:Value} {T:TypeId} (h:w.heap[g]? =some (.cells #[c0,c1,c2,c3] T (0,0))):(w.cell? ⟨g,0,none⟩=some c0∧w.cell? ⟨g,1,none⟩=some c1∧w.cell? ⟨g,2,none⟩=some c2∧w.cell? ⟨g,3,none⟩=some c3)∧∀ o,w.frozen? ⟨g,o,none⟩=false:=
 ⟨⟨(Lib.cell_of_heap h 0).trans rfl,(Lib.cell_of_heap h 1).trans rfl,(Lib.cell_of_heap h 2).trans rfl,(Lib.cell_of_heap h 3).trans rfl⟩,fun o=>by simp[World.frozen?,h]⟩
theorem drop_at {α:Type} {l:List α} {j:Nat} {e:α} (h:l[j]? =some e):l.drop j=e :: l.drop (j+1):=by
 obtain⟨hlt,hge⟩:=List.getElem?_eq_some_iff.1 h
 rw[List.drop_eq_getElem_cons hlt,hge]
set_option maxHeartbeats 1600000 in
theorem xn (B C b:Nat) (p:Pr) (vars:List Pa) (l:List Ex) (zy r:Int) (vl v0 v1 v:Value) (gv n:Int) (w:World) (hE:Env B C p vars v0 v1 v w) (hb:w.heap[b]? =some (ckO v0 v1 gv n)) (hl:kf B w vl l) (hok:zo l 100=true) (hp:Few p) (hr:kW p vars l zy=r):
 Calls Tryd.prog 78 #[.pointer (some ⟨b,0,none⟩),vl,v,.int .i64 zy] w fun e w'=>e=.returned (.int .i64 r)∧Below w.heap.size w w':=by
 obtain⟨A0,c0,A1,c1,q,rfl,rfl,rfl⟩:=hE.form
 obtain⟨A,c,rfl,hn⟩:=hl.form
 have hbl:=zB hb
 have HE:=hid hE
 have HBB:=hid hb
 have HL:=hid hl
 have HOK:=hid hok
 have HP:=hid hp
 have HR:=hid hr
 clear hE hb hl hok hp hr
 go_enter Tryd.func78,Tryd.ntmps78
 go_wp2_with (fail)
 go_loopw [15] (fun iv wr=>∃ j:Nat,j≤l.length∧iv=.int .i64 j∧kW p vars (l.drop j) zy=r∧Below w.heap.size w wr) (fun iv _=>l.length-(intOf iv).toNat)
 case atStart=>exact⟨0,Nat.zero_le _,rfl,HR.out,Below.refl _ _⟩
 case round=>
  obtain⟨j,hj,rfl,ht,hbw⟩:=hrel
  have HT:=hid ht
  have HBW:=hid hbw
  have hsz:=hbw.size
  clear ht
  by_cases hlt:j<l.length
  · obtain⟨⟨k',op',n',s',as'⟩,he⟩:∃ e,l[j]? =some e:=⟨_,List.getElem?_eq_getElem hlt⟩
    obtain⟨g,o,v',rfl,hg,y0,y1,y2,y3,y4,hsl⟩:=(HL.out.below (hbw.mono HE.out.hB) (Nat.le_refl _)).cells he
    obtain⟨A5,c5,rfl,_⟩:=hsl.form
    have hgs:g<wr.heap.size:=by have:=HE.out.hB;omega
    have hbs:b<wr.heap.size:=by omega
    obtain⟨⟨b0,b1,b2,b3⟩,_⟩:=zR ((hbw.block b hbl).trans HBB.out)
    have hEX:vB B wr (.mk k' op' n' s' as') (.agg #[.int .i64 k',.int .i64 op',.int .i64 n',.string s',.slice A5 as'.length c5]):=⟨_,rfl,(HL.out.below (hbw.mono HE.out.hB) (Nat.le_refl _)).range he,hsl⟩
    have hw1:Below wr.heap.size wr (wr.alloc (xA k' op' n' s' A5 as'.length c5)).drew:=((Below.refl _ _).alloc (Nat.le_refl _) _).drew
    have HEX:=hid (hEX.below (hw1.mono (by have:=HE.out.hB;omega)) (Nat.le_refl _))
    have HEN:=hid ((HE.out.below hbw).below hw1)
    have HW1:=hid hw1
    obtain⟨x0,x1,x2,x3,x4⟩:=five_of (heap_alloc_new wr (xA k' op' n' s' A5 as'.length c5))
    obtain⟨⟨t,f⟩,htf⟩:∃ r,zq p vars (.mk k' op' n' s' as')=r:=⟨_,rfl⟩
    have HTF:=hid htf
    have HO:=hid (qJ HOK.out he)
    have hwe:qb p vars (.mk k' op' n' s' as') zy=if f=0 then (if t=zy then 0 else 51) else f:=by unfold qb;rw[htf]
    have hdd:=HT.out
    rw[drop_at he,kW,hwe]at hdd
    have HDD:=hid hdd
    clear hsl htf he hEX hw1 hwe hdd hbw x0 x1 x2 x3 x4
    by_cases hf0:f=0
    case pos=>
     subst hf0
     by_cases htw:t=zy
     · subst htw
       go_wp2_with (fail)
       go_region_held3 (fun w'=>w'.cell? ⟨b,0,none⟩=some (.slice A0 p.arrays.length c0)∧w'.cell? ⟨b,1,none⟩=some (.slice A1 p.funcs.length c1)∧w'.cell? ⟨wr.heap.size,0,none⟩=some (.int .i64 k')∧w'.cell? ⟨wr.heap.size,1,none⟩=some (.int .i64 op')∧w'.cell? ⟨wr.heap.size,2,none⟩=some (.int .i64 n')∧w'.cell? ⟨wr.heap.size,3,none⟩=some (.string s')∧w'.cell? ⟨wr.heap.size,4,none⟩=some (.slice A5 as'.length c5))
        (first
          | (go_split_ands;refine⟨?_,?_,?_,?_,?_,?_,?_⟩ <;> (first | (rw[hq5];assumption) | (rw[hk5 _ _ (by omega)];simp[*];done) | (simp[*];done)))
          | go_keep)
        (first
          | (go_at_call 57
             (refine((xm 100).call (w:=(wr.alloc (xA k' op' n' s' A5 as'.length c5)).drew) HO.out HP.out HTF.out HEN.out HEX.out).mono ?_)
             rintro e w5 ⟨rfl,hb5⟩
             have hk5:∀ g o,g<wr.heap.size+1→w5.cell? ⟨g,o,none⟩=(wr.alloc (xA k' op' n' s' A5 as'.length c5)).cell? ⟨g,o,none⟩:=fun g o hg=>hb5.cell (p:=⟨g,o,none⟩) (by show g<(wr.alloc _).heap.size;rw[zA];exact hg)
             have HB5:=hid (show Below wr.heap.size wr w5 from HW1.out.trans (hb5.mono (by show wr.heap.size≤(wr.alloc _).heap.size;rw[zA];omega)))
             have hq5:∀ o,w5.cell? ⟨b,o,none⟩=wr.cell? ⟨b,o,none⟩:=fun o=>HB5.out.cell (p:=⟨b,o,none⟩) hbs
             clear hb5))
       go_wp2_with (fail)
       go_roundw
       case rel=>exact⟨j+1,by omega,by go_num,by have:=HDD.out;simpa using this,HBW.out.trans (HB5.out.mono hsz)⟩
       case measure=>simp[intOf];omega
     · go_wp2_with (fail)
       go_region_held3 (fun w'=>w'.cell? ⟨b,0,none⟩=some (.slice A0 p.arrays.length c0)∧w'.cell? ⟨b,1,none⟩=some (.slice A1 p.funcs.length c1)∧w'.cell? ⟨wr.heap.size,0,none⟩=some (.int .i64 k')∧w'.cell? ⟨wr.heap.size,1,none⟩=some (.int .i64 op')∧w'.cell? ⟨wr.heap.size,2,none⟩=some (.int .i64 n')∧w'.cell? ⟨wr.heap.size,3,none⟩=some (.string s')∧w'.cell? ⟨wr.heap.size,4,none⟩=some (.slice A5 as'.length c5))
        (first
          | (go_split_ands;refine⟨?_,?_,?_,?_,?_,?_,?_⟩ <;> (first | (rw[hq5];assumption) | (rw[hk5 _ _ (by omega)];simp[*];done) | (simp[*];done)))
          | go_keep)
        (first
          | (go_at_call 57
             (refine((xm 100).call (w:=(wr.alloc (xA k' op' n' s' A5 as'.length c5)).drew) HO.out HP.out HTF.out HEN.out HEX.out).mono ?_)
             rintro e w5 ⟨rfl,hb5⟩
             have hk5:∀ g o,g<wr.heap.size+1→w5.cell? ⟨g,o,none⟩=(wr.alloc (xA k' op' n' s' A5 as'.length c5)).cell? ⟨g,o,none⟩:=fun g o hg=>hb5.cell (p:=⟨g,o,none⟩) (by show g<(wr.alloc _).heap.size;rw[zA];exact hg)
             have HB5:=hid (show Below wr.heap.size wr w5 from HW1.out.trans (hb5.mono (by show wr.heap.size≤(wr.alloc _).heap.size;rw[zA];omega)))
             have hq5:∀ o,w5.cell? ⟨b,o,none⟩=wr.cell? ⟨b,o,none⟩:=fun o=>HB5.out.cell (p:=⟨b,o,none⟩) hbs
             clear hb5))
       go_wp2_with (fail)
       go_ret
       exact⟨zt (by have:=HDD.out;simpa[htw] using this),HBW.out.trans (HB5.out.mono hsz)⟩
    case neg=>
     go_wp2_with (fail)
     go_region_held3 (fun w'=>w'.cell? ⟨b,0,none⟩=some (.slice A0 p.arrays.length c0)∧w'.cell? ⟨b,1,none⟩=some (.slice A1 p.funcs.length c1)∧w'.cell? ⟨wr.heap.size,0,none⟩=some (.int .i64 k')∧w'.cell? ⟨wr.heap.size,1,none⟩=some (.int .i64 op')∧w'.cell? ⟨wr.heap.size,2,none⟩=some (.int .i64 n')∧w'.cell? ⟨wr.heap.size,3,none⟩=some (.string s')∧w'.cell? ⟨wr.heap.size,4,none⟩=some (.slice A5 as'.length c5))
      (first
        | (go_split_ands;refine⟨?_,?_,?_,?_,?_,?_,?_⟩ <;> (first | (rw[hq5];assumption) | (rw[hk5 _ _ (by omega)];simp[*];done) | (simp[*];done)))
        | go_keep)
      (first
        | (go_at_call 57
           (refine((xm 100).call (w:=(wr.alloc (xA k' op' n' s' A5 as'.length c5)).drew) HO.out HP.out HTF.out HEN.out HEX.out).mono ?_)
           rintro e w5 ⟨rfl,hb5⟩
           have hk5:∀ g o,g<wr.heap.size+1→w5.cell? ⟨g,o,none⟩=(wr.alloc (xA k' op' n' s' A5 as'.length c5)).cell? ⟨g,o,none⟩:=fun g o hg=>hb5.cell (p:=⟨g,o,none⟩) (by show g<(wr.alloc _).heap.size;rw[zA];exact hg)
           have HB5:=hid (show Below wr.heap.size wr w5 from HW1.out.trans (hb5.mono (by show wr.heap.size≤(wr.alloc _).heap.size;rw[zA];omega)))
           have hq5:∀ o,w5.cell? ⟨b,o,none⟩=wr.cell? ⟨b,o,none⟩:=fun o=>HB5.out.cell (p:=⟨b,o,none⟩) hbs
           clear hb5))
     go_wp2_with (fail)
     go_ret
     exact⟨zt (by have:=HDD.out;simpa[hf0] using this),HBW.out.trans (HB5.out.mono hsz)⟩
  · go_wp2_with (fail)
    go_ret
    have hd:=HT.out
    rw[List.drop_of_length_le (by omega),kW]at hd
    exact⟨zt hd,HBW.out⟩
def xx (w:World) (v:Value):Prop:=∃ A n c,v=.slice A n c∧n≤9223372036854775807∧(0<n→∃ b off,A=some ⟨b,off,none⟩∧b<w.heap.size∧∀ k,k<n→∃ z:Int,0≤z∧z≤255∧w.cell? ⟨b,off+k,none⟩=some (.int .u8 z))
theorem xx.below {w w':World} {v:Value} (h:xx w v) (hb:Below w.heap.size w w'):xx w' v:=by
 obtain⟨A,n,c,rfl,hn,h1⟩:=h
 refine⟨A,n,c,rfl,hn,fun hp=>?_⟩
 obtain⟨b,off,rfl,hlt,hc⟩:=h1 hp
 refine⟨b,off,rfl,Nat.lt_of_lt_of_le hlt hb.size,fun k hk=>?_⟩
 obtain⟨z,h0,h2,h3⟩:=hc k hk
 exact⟨z,h0,h2,(hb.cell (p:=⟨b,off+k,none⟩) hlt).trans h3⟩
def textStrs:List ByteArray:=[⟨#[120,32,61,32,49,59]⟩,⟨#[105,110,116,32,121,32,61,32,120,59]⟩,⟨#[98,111,111,108,32,98,32,61,32,120,32,60,32,50,59]⟩,⟨#[98,32,61,32,33,98,59]⟩,⟨#[97,91,120,93,32,61,32,121,59]⟩,⟨#[105,102,32,40,98,41,32,123]⟩,⟨#[125,32,101,108,115,101,32,123]⟩,⟨#[125]⟩,⟨#[119,104,105,108,101,32,40,120,32,60,32,51,41,32,123]⟩,⟨#[119,104,105,108,101,32,40,116,114,117,101,41,32,123]⟩,⟨#[98,114,101,97,107,59]⟩,⟨#[99,111,110,116,105,110,117,101,59]⟩,⟨#[114,101,116,117,114,110,32,120,59]⟩,⟨#[114,101,116,117,114,110,32,98,59]⟩,⟨#[112,114,105,110,116,40,120,32,43,32,97,91,48,93,41,59]⟩,⟨#[102,40,120,44,32,98,41,59]⟩,⟨#[105,110,116,32,120,32,61,32,50,59]⟩,⟨#[120,32,61,32,102,40,49,44,32,116,114,117,101,41,59]⟩,⟨#[98,32,61,32,102,40,120,44,32,98,41,32,61,61,32,50,32,38,38,32,98,59]⟩,⟨#[121,32,61,32,105,56,40,120,41,59]⟩,⟨#[98,32,61,32,120,59]⟩,⟨#[120,32,61,32,45,98,59]⟩,⟨#[114,101,116,117,114,110,32,102,40,120,44,32,98,32,61,61,32,116,114,117,101,41,59]⟩,⟨#[122,32,61,32,49,59]⟩,⟨#[99,91,48,93,32,61,32,49,59]⟩,⟨#[104,40,41,59]⟩,⟨#[120,32,61,32,114,101,97,100,40,41,59]⟩,⟨#[123]⟩,⟨#[114,101,116,117,114,110,32,48,59]⟩,⟨#[112,114,105,110,116,40,116,114,117,101,41,59]⟩,⟨#[98,32,61,32,116,114,117,101,32,33,61,32,40,120,32,62,32,49,41,59]⟩]
theorem textStrs_at {i:Nat} (h:i<31):∃ t s,xk[i]? =some t∧textStrs[i]? =some s∧s.data.toList=t∧t.length≤25:=by
 have key:∀ i,i<31→(match xk[i]?,textStrs[i]? with | some t,some s=>decide (s.data.toList=t) && decide (t.length≤25) | _,_=>false)=true:=by decide+kernel
 have:=key i h
 cases h1:xk[i]? with
 | none=>rw[h1]at this;simp at this
 | some t=>
   cases h2:textStrs[i]? with
   | none=>rw[h1,h2]at this;simp at this
   | some s=>
     rw[h1,h2]at this
     simp only[Bool.and_eq_true,decide_eq_true_eq]at this
     exact⟨t,s,rfl,rfl,this.1,this.2⟩
def TxtAt (w:World) (h:Nat):Prop:=∀ i,i<31→∃ t s,xk[i]? =some t∧s.data.toList=t∧t.length≤25∧w.cell? ⟨h,i,none⟩=some (.string s)
theorem txt_of {w:World} {h:Nat} (hI:w.heap[h]? =some (.cells (textStrs.map Value.string).toArray 9)):TxtAt w h:=fun i hi=>by
 obtain⟨t,s,h1,h2,h3,h4⟩:=textStrs_at hi
 refine⟨t,s,h1,h3,h4,(Lib.cell_of_heap hI i).trans ?_⟩
 rw[List.getElem?_toArray,List.getElem?_map,h2]
 rfl
theorem texts_any (w:World):Calls Tryd.prog 19 #[] w fun e w'=>e=.returned (.slice (some ⟨w.heap.size,0,none⟩) 31 31)∧TxtAt w' w.heap.size∧Below w.heap.size w w':=by
 go_enter Tryd.func19,Tryd.ntmps19
 go_wp2
 go_ret
 exact⟨rfl,txt_of (heap_alloc_new w _),(Below.refl _ _).alloc (Nat.le_refl _) _⟩
def BdR (k:Nat) (s:ByteArray):Prop:=∃ Y X,s.data.toList=(preText++[10])++Y∧xb Y X∧yu X=true∧Y.length≤26 * k
theorem bdR_step {k:Nat} {s:ByteArray} (h:BdR k s) {t:List UInt8} {u:ByteArray} (hu:u.data.toList=t) (hl:t.length≤25) (hT:∃ T,xb (t++[10]) T∧yu T=true):BdR (k+1) ((s++u)++⟨#[10]⟩):=by
 obtain⟨Y,X,h1,h2,h3,h4⟩:=h
 obtain⟨T,h5,h6⟩:=hT
 refine⟨Y++(t++[10]),X++T,?_,h2.app h5,calm_app h3 h6,?_⟩
 · rw[ByteArray.data_append,ByteArray.data_append,Array.toList_append,Array.toList_append,h1,hu]
   simp
 · simp only[List.length_append,List.length_singleton]
   omega
theorem bdR_size {k:Nat} {s:ByteArray} (h:BdR k s):s.size≤33+26 * k:=by
 obtain⟨Y,X,h1,h2,h3,h4⟩:=h
 have h5:s.size=s.data.toList.length:=rfl
 have hp:preText.length=32:=rfl
 rw[h5,h1]
 simp only[List.length_append,List.length_singleton,hp]
 omega
theorem ret_piece:∃ T,xb (([114,101,116,117,114,110,32,49,59]:List UInt8)++[10]) T∧yu T=true:=⟨[⟨2,[114,101,116,117,114,110],0⟩,⟨0,[49],0⟩,⟨2,[59],0⟩],yF (by kernel_rfl) (by kernel_rfl),by decide⟩
def BodyR (s:ByteArray):Prop:=s.size≤500∧∃ Y X,s.data.toList=(preText++[10])++Y++(sufText++[10])∧xb Y X∧yu X=true
def sufS:ByteArray:=⟨#[125,10,105,110,116,32,109,97,105,110,40,41,32,123,32,114,101,116,117,114,110,32,102,40,49,44,32,116,114,117,101,41,59,32,125,10]⟩
theorem bdR_end {k:Nat} {s:ByteArray} (h:BdR k s) (hk:k≤15):BodyR (s++sufS):=by
 obtain⟨Y,X,h1,h2,h3,h4⟩:=h
 have e:(s++sufS).data.toList=(preText++[10])++Y++(sufText++[10]):=by
  rw[ByteArray.data_append,Array.toList_append,h1]
  rfl
 refine⟨?_,Y,X,e,h2,h3⟩
 have h5:(s++sufS).size=(s++sufS).data.toList.length:=rfl
 have hp:preText.length=32:=rfl
 have hq:sufText.length=35:=rfl
 rw[h5,e]
 simp only[List.length_append,List.length_singleton,hp,hq]
 omega
theorem bdR_zero:BdR 0 ⟨#[105,110,116,32,97,91,52,93,59,10,105,110,116,32,102,40,105,110,116,32,120,44,32,98,111,111,108,32,98,41,32,123,10]⟩:=⟨[],[],rfl,xb.nil,rfl,Nat.le_refl _⟩
theorem bdR_ret {k:Nat} {s:ByteArray} (h:BdR k s):BdR (k+1) (s++⟨#[114,101,116,117,114,110,32,49,59,10]⟩):=by
 have:=bdR_step h (u:=⟨#[114,101,116,117,114,110,32,49,59]⟩) rfl (by decide) ret_piece
 rw[ByteArray.append_assoc]at this
 exact this
set_option maxHeartbeats 1000000 in
theorem lbody_some (b off n c:Nat) (ends:Bool) (w:World) (hn:n≤9223372036854775807) (hbs:b<w.heap.size) (hc:∀ k,k<n→∃ z:Int,0≤z∧z≤255∧w.cell? ⟨b,off+k,none⟩=some (.int .u8 z)):
 Calls Tryd.prog 9 #[.slice (some ⟨b,off,none⟩) n c,.bool ends] w fun e w'=>∃ r:ByteArray,e=.returned (.string r)∧BodyR r∧Below w.heap.size w w':=by
 have HC:=hid hc
 clear hc
 go_enter Tryd.func9,Tryd.ntmps9
 go_wp2_with (go_at_call 19;(with_reducible refine(texts_any w).mono ?_);rintro e w1 ⟨rfl,hT,hb⟩
              have HT:=hid hT
              have HB:=hid hb
              have HC1:=hid (show ∀ k,k<n→∃ z:Int,0≤z∧z≤255∧w1.cell? ⟨b,off+k,none⟩=some (.int .u8 z) from fun k hk=>by
               obtain⟨z,h0,h2,h3⟩:=HC.out k hk
               exact⟨z,h0,h2,(hb.cell (p:=⟨b,off+k,none⟩) hbs).trans h3⟩)
              clear hT hb)
 go_loop [5,7] (fun sv iv=>∃ (k:Nat) (s:ByteArray),k≤n∧k≤14∧iv=.int .i64 k∧sv=.string s∧BdR k s) (fun _ iv=>14-(intOf iv).toNat)
 case atStart=>exact⟨0,_,Nat.zero_le _,by omega,rfl,rfl,bdR_zero⟩
 case round=>
  obtain⟨k,r,hk,hk14,rfl,rfl,hr⟩:=hrel
  have hrz:=bdR_size hr
  have HR:=hid hr
  clear hr
  by_cases hlt:k<n
  · by_cases h14:k<14
    · obtain⟨z,hz0,hz255,hz⟩:=HC1.out k hlt
      have hj0:0≤z % (31 :Int):=Int.emod_nonneg _ (by omega)
      have hjm:z % (31 :Int)<31:=Int.emod_lt_of_pos _ (by omega)
      obtain⟨t,s,hts,hst,hl,hsc⟩:=HT.out (z % (31 :Int)).toNat (by omega)
      have hsz:s.size≤25:=by have h5:s.size=s.data.toList.length:=rfl;rw[h5,hst];exact hl
      have HS:=hid (bdR_step HR.out hst hl (body_piece hts))
      clear hts hst hl
      go_wp2
      go_round
      case rel=>exact⟨k+1,_,by omega,by omega,by go_num,rfl,HS.out⟩
      case measure=>simp[intOf];omega
    · have e:k=14:=by omega
      subst e
      cases ends
      · go_wp2
        go_ret
        exact⟨_,rfl,bdR_end HR.out (by omega),HB.out⟩
      · go_wp2
        go_ret
        exact⟨_,rfl,bdR_end (bdR_ret HR.out) (by omega),HB.out⟩
  · have e:k=n:=by omega
    subst e
    cases ends
    · go_wp2
      go_ret
      exact⟨_,rfl,bdR_end HR.out (by omega),HB.out⟩
    · go_wp2
      go_ret
      exact⟨_,rfl,bdR_end (bdR_ret HR.out) (by omega),HB.out⟩
theorem lbody_nil (A:Option Addr) (c:Nat) (ends:Bool) (w:World):
 Calls Tryd.prog 9 #[.slice A 0 c,.bool ends] w fun e w'=>∃ r:ByteArray,e=.returned (.string r)∧BodyR r∧Below w.heap.size w w':=by
 go_enter Tryd.func9,Tryd.ntmps9
 go_wp2_with (go_at_call 19;(with_reducible refine(texts_any w).mono ?_);rintro e w1 ⟨rfl,hT,hb⟩
              have HB:=hid hb
              clear hT hb)
 go_loop [5,7] (fun sv iv=>iv=.int .i64 0∧∃ s,sv=.string s∧BdR 0 s) (fun _ _=>0)
 case atStart=>exact⟨rfl,_,rfl,bdR_zero⟩
 case round=>
  obtain⟨rfl,s,rfl,hr⟩:=hrel
  have hrz:=bdR_size hr
  have HR:=hid hr
  clear hr
  cases ends
  · go_wp2
    go_ret
    exact⟨_,rfl,bdR_end HR.out (by omega),HB.out⟩
  · go_wp2
    go_ret
    exact⟨_,rfl,bdR_end (bdR_ret HR.out) (by omega),HB.out⟩
theorem lbody_any (v:Value) (ends:Bool) (w:World) (hv:xx w v):
 Calls Tryd.prog 9 #[v,.bool ends] w fun e w'=>∃ r:ByteArray,e=.returned (.string r)∧BodyR r∧Below w.heap.size w w':=by
 obtain⟨A,n,c,rfl,hn,h1⟩:=hv
 by_cases h0:0<n
 · obtain⟨b,off,rfl,hbs,hc⟩:=h1 h0
   exact lbody_some b off n c ends w hn hbs hc
 · rw[show n=0 by omega]
   exact lbody_nil A c ends w
def sgF (f:Fu):Int × List Pa:=(f.type,f.params)
def Sg (p q:Pr):Prop:=(∀ s,(qg p.arrays s).isSome=(qg q.arrays s).isSome)∧(∀ s,(qF p.funcs s).isSome=(qF q.funcs s).isSome)∧(∀ s,(kn p s).map sgF=(kn q s).map sgF)
theorem hasN_sg {p q:Pr} (h:Sg p q) (vars:List Pa) (k:Int) (s:ByteArray):kJ p vars k s=kJ q vars k s:=by
 unfold kJ
 rw[h.1 s,h.2.1 s]
theorem fitsN_sg {p q:Pr} (h:Sg p q) (k:Int) (s:ByteArray) (n:Nat):jn p k s n=jn q k s n:=by
 unfold jn
 have g:=h.2.2 s
 cases hp:kn p s <;> cases hq:kn q s <;> rw[hp,hq]at g <;> simp[sgF]at g
 dsimp only
 rw[g.2]
theorem nodeY_sg {p q:Pr} (h:Sg p q) (vars:List Pa) (k op:Int) (s:ByteArray) (l:List Int):qH p vars k op s l=qH q vars k op s l:=by
 unfold qH
 have g:=h.2.2 s
 cases hp:kn p s <;> cases hq:kn q s <;> rw[hp,hq]at g <;> simp[sgF]at g
 dsimp only
 rw[g.1,g.2]
mutual
theorem typE_sg {p q:Pr} (h:Sg p q) (vars:List Pa):∀ e:Ex,zq p vars e=zq q vars e
 | .mk k op n name args=>by
   rw[zq,zq,hasN_sg h,fitsN_sg h,typEs_sg h vars args]
   simp only[nodeY_sg h]
theorem typEs_sg {p q:Pr} (h:Sg p q) (vars:List Pa):∀ l:List Ex,zV p vars l=zV q vars l
 | []=>by rw[zV,zV]
 | e :: r=>by rw[zV,zV,typE_sg h vars e,typEs_sg h vars r]
end
theorem wantE_sg {p q:Pr} (h:Sg p q) (vars:List Pa) (e:Ex) (t:Int):qb p vars e t=qb q vars e t:=by
 unfold qb
 rw[typE_sg h]
theorem ownS_sg {p q:Pr} (h:Sg p q) (ft k ty:Int) (name:ByteArray) (args:List Ex) (vars:List Pa) (frm:Nat) (loop:Bool):qm p ft k ty name args vars frm loop=qm q ft k ty name args vars frm loop:=by
 unfold qm
 simp only[wantE_sg h,typE_sg h,h.1]
mutual
theorem chkS_sg {p q:Pr} (h:Sg p q) (ft:Int):∀ (s:St) (vars:List Pa) (frm:Nat) (loop:Bool) (n:Nat),uf p ft s vars frm loop n=uf q ft s vars frm loop n
 | .mk k ty name args thn els,vars,frm,loop,n=>by
   rw[uf,uf,ownS_sg h]
   simp only[chkSs_sg h ft thn,chkSs_sg h ft els]
theorem chkSs_sg {p q:Pr} (h:Sg p q) (ft:Int):∀ (l:List St) (vars:List Pa) (frm:Nat) (loop:Bool) (n:Nat),zU p ft l vars frm loop n=zU q ft l vars frm loop n
 | [],_,_,_,_=>by rw[zU,zU]
 | s :: r,vars,frm,loop,n=>by rw[zU,zU,chkS_sg h ft s,chkSs_sg h ft r]
end
theorem chkF_sg {p q:Pr} (h:Sg p q) (f:Fu):kg p f=kg q f:=by
 unfold kg
 simp only[chkSs_sg h]
def x6:St:=.mk 8 0 ⟨#[]⟩ [.mk 1 0 1 ⟨#[]⟩ []] [] []
theorem ret1_ok (p:Pr) (vars:List Pa) (frm:Nat) (loop:Bool) (n:Nat):zU p 1 [x6] vars frm loop n=(0,n+1):=by
 unfold x6
 simp[zU,uf,qm,qb,zq,zV,kJ,jn,qH]
theorem chkSs_ret (p:Pr):∀ (l:List St) (vars:List Pa) (frm:Nat) (loop:Bool) (n:Nat),
 zU p 1 (l++[x6]) vars frm loop n=if (zU p 1 l vars frm loop n).1≠0 then zU p 1 l vars frm loop n else (0,(zU p 1 l vars frm loop n).2+1)
 | [],vars,frm,loop,n=>by
   rw[List.nil_append,ret1_ok,zU]
   rfl
 | s :: r,vars,frm,loop,n=>by
   rw[List.cons_append,zU,chkSs_ret p r]
   rw[zU]
   by_cases h:(uf p 1 s vars frm loop n).1=0
   · simp only[h,ne_eq,not_true_eq_false,if_false]
   · simp only[h,ne_eq,not_false_eq_true,if_true]
theorem endSs_ret:∀ l:List St,qr (l++[x6])=true
 | []=>by simp[qr,endS,x6]
 | s :: r=>by rw[List.cons_append,qr,endSs_ret r,Bool.or_true]
theorem stsOK_ret:∀ (l:List St),zj (l++[x6]) 100=zj l 100
 | []=>by kernel_rfl
 | s :: r=>by rw[List.cons_append,zj,zj,stsOK_ret r]
def ji (b:List St):Pr:=⟨[arA],[kE b,xv]⟩
def pB4 (b:List St):Pr:=⟨[arA],[xv,kE b]⟩
theorem sg_ab (b:List St):Sg (ji b) (pB4 b):=by
 refine⟨fun s=>rfl,fun s=>?_,fun s=>?_⟩
 · unfold ji pB4 kE xv
   simp only[qF]
   split <;> split <;> rfl
 · unfold kn ji pB4 kE xv
   simp only[qF]
   by_cases h1:fB=s
   · subst h1
     rw[if_pos rfl,if_neg (by decide)]
     rfl
   · by_cases h2:mainB4=s
     · subst h2
       rw[if_neg h1]
       rfl
     · rw[if_neg h1,if_neg h2,if_neg h2,if_neg h1]
       rfl
theorem sg_more (b c:List St):Sg (ji b) (ji c):=by
 refine⟨fun s=>rfl,fun s=>?_,fun s=>?_⟩
 · unfold ji kE xv
   rfl
 · unfold kn ji kE xv
   simp only[qF]
   by_cases h1:fB=s
   · subst h1
     rfl
   · by_cases h2:mainB4=s
     · subst h2
       rw[if_neg h1]
       rfl
     · rw[if_neg h1,if_neg h2]
       rfl
theorem main_ok (b:List St):kg (ji b) xv=(0,0):=by kernel_rfl
theorem glob_a (b:List St):(ug (ji b) (ji b).arrays || zAd (ji b).funcs || !yI (ji b))=false:=by kernel_rfl
theorem glob_b (b:List St):(ug (pB4 b) (pB4 b).arrays || zAd (pB4 b).funcs || !yI (pB4 b))=false:=by kernel_rfl
theorem chk_a (b:List St) (h:prOK (ji b)=true):kC (ji b)=if (kg (ji b) (kE b)).1≠0 then ((kg (ji b) (kE b)).1,0,(kg (ji b) (kE b)).2) else (0,0,0):=by
 unfold kC
 rw[if_neg (by rw[h];decide),glob_a,if_neg (by decide)]
 show xY (ji b) [kE b,xv] 0=_
 rw[xY,xY,xY,main_ok]
 rfl
theorem ok_b (b:List St) (h:prOK (ji b)=true):prOK (pB4 b)=true:=by
 unfold prOK ji pB4 at *
 simp only[List.all_cons,List.all_nil,Bool.and_true,Bool.and_eq_true]at h ⊢
 exact⟨h.1,h.2.2,h.2.1⟩
theorem chk_b (b:List St) (h:prOK (ji b)=true):kC (pB4 b)=if (kg (ji b) (kE b)).1≠0 then ((kg (ji b) (kE b)).1,1,(kg (ji b) (kE b)).2) else (0,0,0):=by
 unfold kC
 rw[if_neg (by rw[ok_b b h];decide),glob_b,if_neg (by decide)]
 show xY (pB4 b) [xv,kE b] 0=_
 rw[xY,xY,xY,←chkF_sg (sg_ab b),←chkF_sg (sg_ab b),main_ok]
 rfl
theorem order_law (b:List St) (h:prOK (ji b)=true):(kC (ji b)).1=(kC (pB4 b)).1∧((kC (ji b)).1=0∨((kC (ji b)).2.1=0∧(kC (pB4 b)).2.1=1∧(kC (ji b)).2.2=(kC (pB4 b)).2.2)):=by
 rw[chk_a b h,chk_b b h]
 by_cases hf:(kg (ji b) (kE b)).1=0
 · rw[if_neg (by simpa using hf),if_neg (by simpa using hf)]
   exact⟨rfl,.inl rfl⟩
 · rw[if_pos hf,if_pos hf]
   exact⟨rfl,.inr ⟨rfl,rfl,rfl⟩⟩
theorem ok_more (b:List St) (h:prOK (ji b)=true):prOK (ji (b++[x6]))=true:=by
 unfold prOK ji xc kE at *
 simp only[List.all_cons,List.all_nil,Bool.and_true,Bool.and_eq_true]at h ⊢
 rw[stsOK_ret]
 exact h
theorem noDup (b:List St):dupP (kE b).params=false:=by kernel_rfl
theorem chkF_f (p:Pr) (b:List St):kg p (kE b)=if (zU p 1 b (kE []).params 2 false 0).1≠0 then zU p 1 b (kE []).params 2 false 0 else if qr b then (0,0) else (52,(zU p 1 b (kE []).params 2 false 0).2):=by
 unfold kg
 rw[noDup b,if_neg (by decide)]
 rfl
theorem more_law (b:List St) (h:prOK (ji b)=true):
 ((kC (ji b)).1=0→(kC (ji (b++[x6]))).1=0)∧((zU (ji b) 1 b (kE []).params 2 false 0).1=0→(kC (ji (b++[x6]))).1=0)∧((zU (ji b) 1 b (kE []).params 2 false 0).1≠0→kC (ji (b++[x6]))=kC (ji b)∧(kC (ji b)).1=(zU (ji b) 1 b (kE []).params 2 false 0).1):=by
 have hs:=sg_more b (b++[x6])
 rw[chk_a b h,chk_a _ (ok_more b h),←chkF_sg hs,chkF_f,chkF_f,chkSs_ret,endSs_ret]
 by_cases hc:(zU (ji b) 1 b (kE []).params 2 false 0).1=0
 · simp[hc]
 · simp[hc]
end Go.Proofs.YtndgkfkieogplaaDoor
