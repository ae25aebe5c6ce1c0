import Derived.Test.YtndgkfkieogplaaDoorAgPrsAgM
import Derived.Test.YtndgkfkieogplaaDoorAgTyRk
set_option linter.unusedSimpArgs false
set_option linter.unusedVariables false
set_option maxRecDepth 100000
/- A text that begins with main's head is parsed to a program with a function. -/
namespace Go.Proofs.YtndgkfkieogplaaDoor
open Lib (hid)
open Go.RowKit
def headText:List UInt8:=[105,110,116,32,109,97,105,110,40,41,32,123,32,98,111,111,108,32,98,32,61,32,116,114,117,101,59]
def uF:List Tok:=[⟨2,[105,110,116],0⟩,⟨1,[109,97,105,110],0⟩,⟨2,[40],0⟩,⟨2,[41],0⟩,⟨2,[123],0⟩,⟨2,[98,111,111,108],0⟩,⟨1,[98],0⟩,⟨2,[61],0⟩,⟨2,[116,114,117,101],0⟩,⟨2,[59],0⟩]
theorem head_scans:xb (headText++[10]) uF:=yF (by kernel_rfl) (by kernel_rfl)
theorem head_pr (n:Nat) (Z:List Tok):jg (n+1) ⟨[],[]⟩ (uF++Z)=(uh n 1 mainB4 ((uF.drop 2)++Z)).bind fun f r=>jg n ⟨[],[f]⟩ r:=by
 rw[pr_step]
 rfl
theorem ends_doc {s:ByteArray} {p:Pr} {ln:Nat} {Y:List UInt8} (hs:s.size≤500) (hY:s.data.toList=(headText++[10])++Y) (h:kS s=(p,0,ln)):Small p∧∃ f fs,p.funcs=f :: fs:=by
 refine⟨y8 hs h,?_⟩
 obtain⟨_,_,ts,r,h1,h2,h3⟩:=docP_ok h
 obtain⟨l1,U,h4,h5⟩:=head_scans Y 1
 rw[hY]at h1
 rw[h1]at h4
 obtain rfl:ts=U++(zN Y l1).1:=(Prod.mk.inj h4).1
 have h9:fl (uF++fl (zN Y l1).1)=fl (U++(zN Y l1).1):=by
  rw[←h5]
  unfold fl
  simp only[List.map_append,List.map_map]
  rfl
 obtain⟨q,hq⟩:=parse_fl h9 h2
 unfold qA at hq
 rw[show 20 * (uF++fl (zN Y l1).1).length+40=(20 * (uF++fl (zN Y l1).1).length+39)+1 from rfl,head_pr]at hq
 obtain⟨f,R,_,h6⟩:=zC hq
 obtain⟨qs,fs,h7⟩:=pr_keeps _ _ _ _ _ h6
 exact⟨f,fs,by rw[h7];rfl⟩
def EdR (k:Nat) (s:ByteArray):Prop:=∃ Y,s.data.toList=(headText++[10])++Y∧Y.length≤k
theorem edR_zero:EdR 0 ⟨#[105,110,116,32,109,97,105,110,40,41,32,123,32,98,111,111,108,32,98,32,61,32,116,114,117,101,59,10]⟩:=⟨[],rfl,Nat.le_refl _⟩
theorem edR_app {k m:Nat} {s u:ByteArray} (h:EdR k s) (hu:k+u.size≤m):EdR m (s++u):=by
 obtain⟨Y,h1,h2⟩:=h
 refine⟨Y++u.data.toList,?_,?_⟩
 · rw[ByteArray.data_append,Array.toList_append,h1,List.append_assoc]
 · have h5:u.size=u.data.toList.length:=rfl
   rw[List.length_append]
   omega
theorem edR_line {k:Nat} {s u:ByteArray} (h:EdR (32 * k) s) (hu:u.size≤31):EdR (32 * (k+1)) ((s++u)++⟨#[10]⟩):=edR_app (edR_app h (Nat.le_refl _)) (by show 32 * k+u.size+1≤_;omega)
theorem edR_skip {k m:Nat} {s:ByteArray} (h:EdR k s) (hk:k≤m):EdR m s:=by
 obtain⟨Y,h1,h2⟩:=h
 exact⟨Y,h1,by omega⟩
theorem edR_size {k:Nat} {s:ByteArray} (h:EdR k s):s.size≤28+k:=by
 obtain⟨Y,h1,h2⟩:=h
 have h5:s.size=s.data.toList.length:=rfl
 have hp:headText.length=27:=rfl
 rw[h5,h1]
 simp only[List.length_append,List.length_singleton,hp]
 omega
theorem edR_doc {k:Nat} {s:ByteArray} (h:EdR k s) (hk:k≤472) {p:Pr} {ln:Nat} (hd:kS s=(p,0,ln)):Small p∧∃ f fs,p.funcs=f :: fs:=by
 have hs:=edR_size h
 obtain⟨Y,h1,h2⟩:=h
 exact ends_doc (by omega) h1 hd
set_option maxHeartbeats 8000000 in
theorem lends_any (B:Nat) (v:Value) (w:World) (ht:TreeTab B w) (hB:B≤w.heap.size) (hv:xx w v):Calls Tryd.prog 7 #[v] w fun e w'=>e=.returned (.bool true)∧Below w.heap.size w w':=by
 obtain⟨A,n,c,rfl,hn,hv⟩:=hv
 have HT:=hid ht
 have HV:=hid hv
 clear ht hv
 go_enter Tryd.func7,Tryd.ntmps7
 go_upto_region 4 with(fail)
 have hb0:Below w.heap.size w (w.alloc (.cells #[.string ⟨#[119,104,105,108,101,32,40,116,114,117,101,41,32,123]⟩,.string ⟨#[119,104,105,108,101,32,40,98,41,32,123]⟩,.string ⟨#[105,102,32,40,98,41,32,123]⟩,.string ⟨#[125,32,101,108,115,101,32,123]⟩,.string ⟨#[125]⟩,.string ⟨#[98,114,101,97,107,59]⟩,.string ⟨#[114,101,116,117,114,110,32,49,59]⟩,.string ⟨#[99,111,110,116,105,110,117,101,59]⟩,.string ⟨#[112,114,105,110,116,40,49,41,59]⟩,.string ⟨#[105,102,32,40,116,114,117,101,41,32,123,32,114,101,116,117,114,110,32,50,59,32,125,32,101,108,115,101,32,123]⟩] 9)):=(Below.refl _ _).alloc (Nat.le_refl _) _
 have hz0:(w.alloc (.cells #[.string ⟨#[119,104,105,108,101,32,40,116,114,117,101,41,32,123]⟩,.string ⟨#[119,104,105,108,101,32,40,98,41,32,123]⟩,.string ⟨#[105,102,32,40,98,41,32,123]⟩,.string ⟨#[125,32,101,108,115,101,32,123]⟩,.string ⟨#[125]⟩,.string ⟨#[98,114,101,97,107,59]⟩,.string ⟨#[114,101,116,117,114,110,32,49,59]⟩,.string ⟨#[99,111,110,116,105,110,117,101,59]⟩,.string ⟨#[112,114,105,110,116,40,49,41,59]⟩,.string ⟨#[105,102,32,40,116,114,117,101,41,32,123,32,114,101,116,117,114,110,32,50,59,32,125,32,101,108,115,101,32,123]⟩] 9)).heap.size=w.heap.size+1:=zA _ _
 have hi0:=heap_alloc_new w (.cells #[.string ⟨#[119,104,105,108,101,32,40,116,114,117,101,41,32,123]⟩,.string ⟨#[119,104,105,108,101,32,40,98,41,32,123]⟩,.string ⟨#[105,102,32,40,98,41,32,123]⟩,.string ⟨#[125,32,101,108,115,101,32,123]⟩,.string ⟨#[125]⟩,.string ⟨#[98,114,101,97,107,59]⟩,.string ⟨#[114,101,116,117,114,110,32,49,59]⟩,.string ⟨#[99,111,110,116,105,110,117,101,59]⟩,.string ⟨#[112,114,105,110,116,40,49,41,59]⟩,.string ⟨#[105,102,32,40,116,114,117,101,41,32,123,32,114,101,116,117,114,110,32,50,59,32,125,32,101,108,115,101,32,123]⟩] 9)
 generalize w.alloc (.cells #[.string ⟨#[119,104,105,108,101,32,40,116,114,117,101,41,32,123]⟩,.string ⟨#[119,104,105,108,101,32,40,98,41,32,123]⟩,.string ⟨#[105,102,32,40,98,41,32,123]⟩,.string ⟨#[125,32,101,108,115,101,32,123]⟩,.string ⟨#[125]⟩,.string ⟨#[98,114,101,97,107,59]⟩,.string ⟨#[114,101,116,117,114,110,32,49,59]⟩,.string ⟨#[99,111,110,116,105,110,117,101,59]⟩,.string ⟨#[112,114,105,110,116,40,49,41,59]⟩,.string ⟨#[105,102,32,40,116,114,117,101,41,32,123,32,114,101,116,117,114,110,32,50,59,32,125,32,101,108,115,101,32,123]⟩] 9)=w1 at *
 have tc0:w1.cell? ⟨w.heap.size,0,none⟩=some (.string ⟨#[119,104,105,108,101,32,40,116,114,117,101,41,32,123]⟩):=(Lib.cell_of_heap hi0 0).trans rfl
 have tc1:w1.cell? ⟨w.heap.size,1,none⟩=some (.string ⟨#[119,104,105,108,101,32,40,98,41,32,123]⟩):=(Lib.cell_of_heap hi0 1).trans rfl
 have tc2:w1.cell? ⟨w.heap.size,2,none⟩=some (.string ⟨#[105,102,32,40,98,41,32,123]⟩):=(Lib.cell_of_heap hi0 2).trans rfl
 have tc3:w1.cell? ⟨w.heap.size,3,none⟩=some (.string ⟨#[125,32,101,108,115,101,32,123]⟩):=(Lib.cell_of_heap hi0 3).trans rfl
 have tc4:w1.cell? ⟨w.heap.size,4,none⟩=some (.string ⟨#[125]⟩):=(Lib.cell_of_heap hi0 4).trans rfl
 have tc5:w1.cell? ⟨w.heap.size,5,none⟩=some (.string ⟨#[98,114,101,97,107,59]⟩):=(Lib.cell_of_heap hi0 5).trans rfl
 have tc6:w1.cell? ⟨w.heap.size,6,none⟩=some (.string ⟨#[114,101,116,117,114,110,32,49,59]⟩):=(Lib.cell_of_heap hi0 6).trans rfl
 have tc7:w1.cell? ⟨w.heap.size,7,none⟩=some (.string ⟨#[99,111,110,116,105,110,117,101,59]⟩):=(Lib.cell_of_heap hi0 7).trans rfl
 have tc8:w1.cell? ⟨w.heap.size,8,none⟩=some (.string ⟨#[112,114,105,110,116,40,49,41,59]⟩):=(Lib.cell_of_heap hi0 8).trans rfl
 have tc9:w1.cell? ⟨w.heap.size,9,none⟩=some (.string ⟨#[105,102,32,40,116,114,117,101,41,32,123,32,114,101,116,117,114,110,32,50,59,32,125,32,101,108,115,101,32,123]⟩):=(Lib.cell_of_heap hi0 9).trans rfl
 have HB1:=hid hb0
 have HT1:=hid (HT.out.below (hb0.mono hB))
 have HV1:=hid (show ∀ k,k<n→∃ b off,A=some ⟨b,off,none⟩∧∃ z:Int,0≤z∧z≤255∧w1.cell? ⟨b,off+k,none⟩=some (.int .u8 z) from fun k hk=>by
  obtain⟨b,off,h1,h2,h3⟩:=HV.out (by omega)
  obtain⟨z,h4,h5,h6⟩:=h3 k hk
  exact⟨b,off,h1,z,h4,h5,(hb0.cell (p:=⟨b,off+k,none⟩) h2).trans h6⟩)
 have hz1:w.heap.size≤w1.heap.size:=hb0.size
 clear hb0 hi0
 go_wp2_with (fail)
 go_loop [3,4,6] (fun sv ov iv=>∃ (k m:Nat) (s:ByteArray),k≤n∧k≤12∧m≤k∧iv=.int .i64 k∧ov=.int .i64 m∧sv=.string s∧EdR (32 * k) s) (fun _ _ iv=>12-(intOf iv).toNat)
 case atStart=>exact⟨0,0,_,Nat.zero_le _,by omega,Nat.le_refl _,rfl,rfl,rfl,edR_zero⟩
 case round=>
  obtain⟨k,m,s,hk,hk12,hm,rfl,rfl,rfl,hs⟩:=hrel
  have hsz:=edR_size hs
  have HS:=hid hs
  clear hs
  by_cases hgo:k<n∧k<12
  · obtain⟨hlt,h12⟩:=hgo
    obtain⟨b,off,rfl,z,hz0,hz255,hzc⟩:=HV1.out k hlt
    have hd:z % 10=0∨z % 10=1∨z % 10=2∨z % 10=3∨z % 10=4∨z % 10=5∨z % 10=6∨z % 10=7∨z % 10=8∨z % 10=9:=by omega
    have hm0:((m:Int) == 0)=true∧m=0∨((m:Int) == 0)=false∧0<m:=by
     by_cases h:m=0
     · exact Or.inl ⟨by simp[h],h⟩
     · exact Or.inr ⟨by simp[h],by omega⟩
    have h128:decide (z<128)=true∨decide (z<128)=false:=by by_cases h:z<128 <;> simp[h]
    rcases hd with hd | hd | hd | hd | hd | hd | hd | hd | hd | hd
    all_goals rcases hm0 with⟨hm0,hmm⟩ | ⟨hm0,hmm⟩
    all_goals rcases h128 with h128 | h128
    all_goals
     go_wp2_with (fail)
     go_round
     case rel=>
      first
      | exact⟨k+1,m,_,by omega,by omega,by omega,by go_num,rfl,rfl,edR_line HS.out (by decide)⟩
      | exact⟨k+1,m+1,_,by omega,by omega,by omega,by go_num,by go_num,rfl,edR_line HS.out (by decide)⟩
      | exact⟨k+1,m-1,_,by omega,by omega,by omega,by go_num,congrArg (Value.int .i64) (by omega),rfl,edR_line HS.out (by decide)⟩
      | exact⟨k+1,m,_,by omega,by omega,by omega,by go_num,rfl,rfl,edR_skip HS.out (by omega)⟩
     case measure=>simp[intOf];omega
  · have hx:¬ k<n∨(k<n∧¬ k<12):=by omega
    clear hgo
    rcases hx with hx | ⟨hx,hx2⟩
    all_goals
     go_wp2_with (fail)
     go_loop [3,8] (fun sv jv=>∃ (j:Nat) (s:ByteArray),j≤m∧jv=.int .i64 j∧sv=.string s∧EdR (384+j) s) (fun _ jv=>m-(intOf jv).toNat)
     case atStart=>exact⟨0,_,Nat.zero_le _,rfl,rfl,edR_skip HS.out (by omega)⟩
     case round=>
      obtain⟨j,s2,hj,rfl,rfl,hs2⟩:=hrel
      have hsz2:=edR_size hs2
      have HS2:=hid hs2
      clear hs2
      by_cases hjm:j<m
      · go_wp2_with (fail)
        go_round
        case rel=>exact⟨j+1,_,by omega,by go_num,rfl,edR_app HS2.out (by show 384+j+1≤_;omega)⟩
        case measure=>simp[intOf];omega
      · have HR:=hid (show EdR 400 (s2++⟨#[125]⟩) from edR_app HS2.out (by show 384+j+1≤_;omega))
        obtain⟨p,e1,ln,hd⟩:∃ p e ln,kS (s2++⟨#[125]⟩)=(p,e,ln):=⟨_,_,_,rfl⟩
        have HD:=hid hd
        clear hd
        go_upto_region 19 with(first
         | (go_at_call 8;(with_reducible refine(xu _ HT1.out (by omega) HD.out).mono ?_);rintro e w2 ⟨A0,c0,A1,c1,rfl,hb,hg⟩
            have hz2:w1.heap.size≤w2.heap.size:=hb.size
            have hb2:Below w2.heap.size w2 (w2.alloc (ze A0 p.arrays.length c0 A1 p.funcs.length c1)):=(Below.refl _ _).alloc (Nat.le_refl _) _
            have HG2:=hid (hg.below hb2)
            have HX2:=hid (heap_alloc_new w2 (ze A0 p.arrays.length c0 A1 p.funcs.length c1))
            have HB2:=hid ((HB1.out.trans (hb.mono hz1)).trans (hb2.mono (by omega)))
            clear hb hg hb2))
        by_cases he:e1=0
        · subst he
          obtain⟨hsm,⟨f,fs,hfs⟩⟩:=edR_doc HR.out (by decide) HD.out
          obtain⟨⟨r1,r2,r3⟩,hR⟩:∃ R,kC p=R:=⟨_,rfl⟩
          have HSM:=hid hsm
          have HRR:=hid hR
          have HFS:=hid hfs
          have hn:0<p.funcs.length:=by rw[hfs];simp
          obtain⟨g,o,v3,rfl,hg,hz,hsb⟩:=HG2.out.first hfs
          have HSB:=hid hsb
          have hn0:(0 :Int)<p.funcs.length:=by omega
          have HFOK:=hid (kl hsm.ok (show f ∈ p.funcs by rw[hfs];simp)).1
          have hgs:g<w2.heap.size:=hg
          have HZ:=hid hz
          clear hsm hR hfs hz hsb
          obtain⟨en,hen⟩:∃ b,qr f.body=b:=⟨_,rfl⟩
          have HEN:=hid hen
          clear hen
          go_upto_region 23 with(first
           | (go_at_call 11;(with_reducible refine(HG2.out.chk3 HSM.out HRR.out).mono ?_);rintro e w3 ⟨rfl,hb⟩
              have hz3:w2.heap.size+1≤w3.heap.size:=by have:=hb.size;simpa using this
              have hb3:Below w3.heap.size w3 (w3.alloc (qQ r2 (W64 r3))):=(Below.refl _ _).alloc (Nat.le_refl _) _
              have hx3:=heap_alloc_new w3 (qQ r2 (W64 r3))
              have hy3:=(hb3.block w2.heap.size (by omega)).trans ((hb.block w2.heap.size (by simp)).trans HX2.out)
              obtain⟨⟨p2,p3⟩,py⟩:=zE hy3
              have HG3:=hid ((HG2.out.below hb).below hb3)
              have HY3:=hid hy3
              have HX3:=hid hx3
              have HB3:=hid (HB2.out.trans (((hb.trans (hb3.mono (by simp;omega)))).mono (by simp;omega)))
              have HC3:=hid (show Below w2.heap.size (w2.alloc (ze A0 p.arrays.length c0 (some ⟨g,o,none⟩) p.funcs.length c1)) (w3.alloc (qQ r2 (W64 r3))) from(hb.mono (by simp)).trans (hb3.mono (by omega)))
              clear hb hx3 hb3 hy3)
           | (go_at_call 12;(with_reducible refine(HG3.out.rchk3 HSM.out HRR.out).mono ?_);rintro e w4 ⟨rfl,hb⟩
              have hz4:w3.heap.size+1≤w4.heap.size:=by have:=hb.size;simpa using this
              have hb4:Below w4.heap.size w4 (w4.alloc (qQ r2 (W64 r3))):=(Below.refl _ _).alloc (Nat.le_refl _) _
              have hx4:=heap_alloc_new w4 (qQ r2 (W64 r3))
              have hy4:=(hb4.block w2.heap.size (by omega)).trans ((hb.block w2.heap.size (by simp;omega)).trans HY3.out)
              have hu4:=(hb4.block w3.heap.size (by omega)).trans ((hb.block w3.heap.size (by simp)).trans HX3.out)
              have HG4:=hid ((HG3.out.below hb).below hb4)
              have HX4:=hid hx4
              have HY4:=hid hy4
              have HU4:=hid hu4
              have HB4:=hid (HB3.out.trans (((hb.trans (hb4.mono (by simp;omega)))).mono (by simp;omega)))
              have HQ4:=hid (show (w4.alloc (qQ r2 (W64 r3))).heap.size=w4.heap.size+1 from zA _ _)
              have HC4:=hid (show Below w2.heap.size (w2.alloc (ze A0 p.arrays.length c0 (some ⟨g,o,none⟩) p.funcs.length c1)) (w4.alloc (qQ r2 (W64 r3))) from HC3.out.trans ((hb.mono (by simp;omega)).trans (hb4.mono (by omega))))
              clear hb hb4 hy4 hx4 hu4))
          obtain⟨⟨y0,y1⟩,yz⟩:=zE HY4.out
          obtain⟨⟨x0,x1⟩,xz⟩:=zE HX4.out
          obtain⟨⟨u0,u1⟩,uz⟩:=zE HU4.out
          have hz4:(w4.alloc (qQ r2 (W64 r3))).cell? ⟨g,o+3,none⟩=some v3:=(HC4.out.cell (p:=⟨g,o+3,none⟩) hgs).trans HZ.out
          have HD4:=hid (HG4.out.below (Below.refl _ _).drew)
          have hsg:g<w4.heap.size+1:=by omega
          have hsp:w2.heap.size<w4.heap.size+1:=by omega
          have hs3:w3.heap.size<w4.heap.size+1:=by omega
          have hs4:w4.heap.size<w4.heap.size+1:=by omega
          first
          | (go_region_held3 (fun w'=>w'.cell? ⟨w2.heap.size,1,none⟩=some (.slice (some ⟨g,o,none⟩) p.funcs.length c1)∧w'.cell? ⟨g,o+3,none⟩=some v3∧w'.cell? ⟨w3.heap.size,0,none⟩=some (.int .i64 r2)∧w'.cell? ⟨w3.heap.size,1,none⟩=some (.int .i64 (W64 r3))∧w'.cell? ⟨w4.heap.size,0,none⟩=some (.int .i64 r2)∧w'.cell? ⟨w4.heap.size,1,none⟩=some (.int .i64 (W64 r3)))
              (first
                | (refine⟨?_,?_,?_,?_,?_,?_⟩ <;> (first | assumption | ((first | rw[hq7 _ _ (by assumption)] | rw[hq6 _ _ (by assumption)] | rw[hq5 _ _ (by assumption)]);assumption)))
                | go_keep)
              (first
                | (go_at_call 10
                   (refine(jw _ _ HD4.out.tab HD4.out.hB).mono ?_)
                   rintro e w5 ⟨rfl,hb⟩
                   have hz5:w4.heap.size+1≤w5.heap.size:=by have:=hb.size;rw[←HQ4.out];exact this
                   have hq5:∀ k x,k<w4.heap.size+1→w5.cell? ⟨k,x,none⟩=(w4.alloc (qQ r2 (W64 r3))).cell? ⟨k,x,none⟩:=fun k x h=>hb.cell (p:=⟨k,x,none⟩) (by show k<(w4.alloc _).heap.size;rw[zA];exact h)
                   have HB5:=hid ((HB4.out.trans (Below.refl _ _).drew).trans (hb.mono (by show w.heap.size≤(w4.alloc _).heap.size;rw[zA];omega)))
                   have HC5:=hid ((HC4.out.trans (Below.refl _ _).drew).trans (hb.mono (by show w2.heap.size≤(w4.alloc _).heap.size;rw[zA];omega)))
                   clear hb)
                | (go_at_call 13
                   (refine(EnC.call (vq 100) (B:=w2.heap.size) HFOK.out HEN.out (by omega) (HSB.out.below HC5.out (Nat.le_refl _))).mono ?_)
                   rintro e w6 ⟨rfl,hb⟩
                   have hz6:w5.heap.size≤w6.heap.size:=hb.size
                   have hq6:∀ k x,k<w4.heap.size+1→w6.cell? ⟨k,x,none⟩=(w4.alloc (qQ r2 (W64 r3))).cell? ⟨k,x,none⟩:=fun k x h=>(hb.cell (p:=⟨k,x,none⟩) (by show k<w5.heap.size;omega)).trans (hq5 k x h)
                   have HB6:=hid (HB5.out.trans (hb.mono (by omega)))
                   have HC6:=hid (HC5.out.trans (hb.mono (by omega)))
                   clear hb)
                | (go_at_call 14
                   (refine(EnC.call (vr 100) (B:=w2.heap.size) HFOK.out HEN.out (by omega) (HSB.out.below HC6.out (Nat.le_refl _))).mono ?_)
                   rintro e w7 ⟨rfl,hb⟩
                   have hq7:∀ k x,k<w4.heap.size+1→w7.cell? ⟨k,x,none⟩=(w4.alloc (qQ r2 (W64 r3))).cell? ⟨k,x,none⟩:=fun k x h=>(hb.cell (p:=⟨k,x,none⟩) (by show k<w6.heap.size;omega)).trans (hq6 k x h)
                   have HB7:=hid (HB6.out.trans (hb.mono (by omega)))
                   clear hb)))
          | fail
          all_goals go_wp2_with (fail)
          all_goals go_ret
          all_goals exact⟨zD (by simp),HB7.out⟩
        · have hne:(e1 != 0)=true:=by simp[he]
          go_wp2_with (go_at_call 10;(with_reducible refine(jw _ _ HG2.out.tab HG2.out.hB).mono ?_);rintro e w3 ⟨rfl,hb⟩
                       have HB3:=hid (HB2.out.trans (hb.mono (by simp;omega)))
                       clear hb)
          go_ret
          exact⟨rfl,HB3.out⟩
end Go.Proofs.YtndgkfkieogplaaDoor
