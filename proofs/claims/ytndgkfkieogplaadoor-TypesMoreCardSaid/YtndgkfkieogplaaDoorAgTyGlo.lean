import Derived.Test.YtndgkfkieogplaaDoorAgTyLl
import Derived.Test.YtndgkfkieogplaaDoorAgParBlk
import Derived.Test.YtndgkfkieogplaaDoorAgParSizeS
set_option linter.unusedSimpArgs false
set_option linter.unusedVariables false
set_option maxRecDepth 100000
/- The names of arrays and functions; where a run begins: package types. -/
namespace Go.Proofs.YtndgkfkieogplaaDoor
open Lib (hid)
open Go.RowKit
def Sized (p:Pr):Prop:=(∀ a ∈ p.arrays,a.name.size≤maxLen)∧∀ f ∈ p.funcs,f.name.size≤maxLen∧∀ x ∈ f.params,x.name.size≤maxLen
theorem kw {s:ByteArray}:∀ {l:List Fu},(qF l s).isSome=l.any fun f=>decide (f.name=s)
 | []=>rfl
 | f :: r=>by
   rw[qF,List.any_cons]
   by_cases h:f.name=s
   · simp[h]
   · rw[if_neg h,Option.isSome_map,kw]
     simp[h]
theorem xy {s:ByteArray}:∀ {l:List Ar},(qg l s).isSome=l.any fun f=>decide (f.name=s)
 | []=>rfl
 | f :: r=>by
   rw[qg,List.any_cons]
   by_cases h:f.name=s
   · simp[h]
   · rw[if_neg h,Option.isSome_map,xy]
     simp[h]
theorem yA {s:ByteArray}:∀ {l:List Pa},(zi l s).isSome=l.any fun f=>decide (f.name=s)
 | []=>rfl
 | f :: r=>by
   rw[zi,List.any_cons,←yA (l:=r)]
   cases zi r s with
   | some t=>simp
   | none=>
     by_cases h:f.name=s
     · simp[h]
     · simp[h]
theorem nod_params:∀ l:List Pa,nod (l.map (·.name))= !dupP l
 | []=>rfl
 | x :: r=>by
   rw[List.map_cons,nod,dupP,nod_params r,yA,List.any_map,Bool.not_or]
   rfl
theorem nod_app:∀ (a b:List ByteArray),nod (a++b)=(nod a && nod b && !(a.any fun s=>b.any fun x=>decide (x=s)))
 | [],b=>by simp[nod]
 | s :: r,b=>by
   rw[List.cons_append,nod,nod,nod_app r b,List.any_append,List.any_cons]
   cases(r.any fun x=>decide (x=s)) <;> cases(b.any fun x=>decide (x=s)) <;> cases nod r <;> cases nod b <;> simp
theorem nod_funs:∀ l:List Fu,nod (l.map (·.name))= !zAd l
 | []=>rfl
 | x :: r=>by
   rw[List.map_cons,nod,zAd,nod_funs r,kw,List.any_map,Bool.not_or]
   rfl
theorem nod_arrs (p:Pr):∀ l:List Ar,(nod (l.map (·.name)) && !((l.map (·.name)).any fun s=>(p.funcs.map (·.name)).any fun x=>decide (x=s)))= !ug p l
 | []=>rfl
 | x :: r=>by
   rw[List.map_cons,nod,ug,List.any_cons,Bool.not_or,Bool.not_or,Bool.not_or,←nod_arrs p r,xy,kw,List.any_map,List.any_map]
   simp only[Function.comp_def]
   cases(r.any fun f=>decide (f.name=x.name)) <;> cases(p.funcs.any fun f=>decide (f.name=x.name)) <;> simp
theorem nod_globals (p:Pr):nod (p.arrays.map (·.name)++p.funcs.map (·.name))= !(ug p p.arrays || zAd p.funcs):=by
 rw[nod_app,nod_funs,Bool.not_or,←nod_arrs p p.arrays]
 cases nod (p.arrays.map (·.name)) <;> cases zAd p.funcs <;> simp
theorem own_names {w:World} {base:Nat} {e:TypeId} {v:Value} {n:Nat} {l:List ByteArray} (h:w.ownsRow base e 1 v n (l.map Value.string)) (hn:n=l.length) (hl:l.length≤281474976710656):SlN w.heap.size w v l:=by
 subst hn
 rcases h.2 with⟨rfl,h0⟩ | ⟨g,cap,cur,rfl,h1,h2,h3,h4,h5,h6⟩
 · obtain rfl:l=[]:=List.eq_nil_of_length_eq_zero h0
   exact⟨none,0,rfl,Nat.zero_le _,fun h=>absurd h (by simp)⟩
 · have hg:g<w.heap.size:=(Array.getElem?_eq_some_iff.1 h2).1
   refine⟨_,cap,rfl,hl,fun _=>⟨g,0,rfl,?_⟩⟩
   have hc:∀ j t,l[j]? =some t→w.cell? ⟨g,0+j,none⟩=some (.string t):=fun j t hj=>by
    rw[Nat.zero_add,Lib.cell_of_heap h2]
    have h7:(cur.toList.take (l.length * 1))[j]? =some (Value.string t):=by
     rw[h6,List.getElem?_map,hj]
     rfl
    rw[List.getElem?_take]at h7
    split at h7
    · simpa using h7
    · cases h7
   clear h h1 h2 h3 h4 h5 h6 hl
   have gen:∀ (m:List ByteArray) (o:Nat),(∀ j t,m[j]? =some t→w.cell? ⟨g,o+j,none⟩=some (.string t))→uM 1 (fun (s:ByteArray) g o=>CellB w.heap.size w g o (.string s)) m g o:=by
    intro m
    induction m with
    | nil=>intro _ _;trivial
    | cons t r ih=>
      intro o h
      exact⟨⟨hg,h 0 t rfl⟩,ih (o+1) fun j u hj=>by
       rw[show o+1+j=o+(j+1) by omega]
       exact h (j+1) u (by simpa using hj)⟩
   exact gen l 0 hc
theorem strinfo:(Tryd.prog.info? 9).map (fun i=>(i.zero,i.size,i.bytes))=some (some (.string ⟨#[]⟩),1,16):=by kernel_rfl
theorem take_snoc {α β:Type} {f:α→β} {l:List α} {j:Nat} {x:α} (h:l[j]? =some x):(l.take (j+1)).map f=(l.take j).map f++[f x]:=by
 rw[List.take_add_one,h]
 simp
set_option maxHeartbeats 2000000 in
theorem vL (B:Nat) (p:Pr) (v0 v1:Value) (w:World) (hB:B≤w.heap.size) (ha:SlA B w v0 p.arrays) (hf:SlF B w v1 p.funcs) (hn1:p.arrays.length≤1000000) (hn2:p.funcs.length≤1000000):
 Calls Tryd.prog 24 #[.agg #[v0,v1]] w fun e w'=>∃ v,e=.returned v∧SlN w'.heap.size w' v (p.arrays.map (·.name)++p.funcs.map (·.name))∧Below w.heap.size w w':=by
 obtain⟨A0,c0,rfl,_⟩:=ha.form
 obtain⟨A1,c1,rfl,_⟩:=hf.form
 obtain⟨i0,hi,hz0,hz1,hz2⟩:=info_parts strinfo
 have HI0:=hid (And.intro hi (And.intro hz0 (And.intro hz1 hz2)))
 have HA:=hid ha
 have HF:=hid hf
 clear ha hf hi hz0 hz1 hz2
 go_enter Tryd.func24,Tryd.ntmps24
 go_wp2_with (fail)
 go_loopw [3,11] (fun vv iv wr=>∃ j:Nat,j≤p.arrays.length∧iv=.int .i64 j∧wr.ownsRow (w.heap.size+1) 9 1 vv j (((p.arrays.take j).map (·.name)).map Value.string)∧wr.heap[w.heap.size]? =some (ze A0 p.arrays.length c0 A1 p.funcs.length c1)∧Below w.heap.size w wr∧w.heap.size+1≤wr.heap.size) (fun _ iv _=>p.arrays.length-(intOf iv).toNat)
 case atStart=>exact⟨0,Nat.zero_le _,rfl,World.ownsRow_nil _ _ _ _,heap_alloc_new _ _,(Below.refl _ _).alloc (Nat.le_refl _) _,by rw[zA];omega⟩
 case round=>
  obtain⟨j,hj,rfl,ho,hx,hbw,hs1⟩:=hrel
  obtain⟨A4,c4,rfl⟩:=zp ho
  obtain⟨⟨r0,r1⟩,rz⟩:=zE hx
  have HO:=hid ho
  have HX:=hid hx
  have HBW:=hid hbw
  by_cases hlt:j<p.arrays.length
  · obtain⟨y,hy⟩:∃ e,p.arrays[j]? =some e:=⟨_,List.getElem?_eq_getElem hlt⟩
    obtain⟨g,o,rfl,hg,q0,q1⟩:=(HA.out.below (hbw.mono hB) (Nat.le_refl _)).cells hy
    have hgs:g<wr.heap.size:=by omega
    have HY:=hid hy
    have HPRE:=hid (zh (zh ho (.cells #[.string y.name,.int .i64 y.size] 85)) (.cells #[.string y.name] 9))
    have HNW:=hid (jJ (wr.alloc (.cells #[.string y.name,.int .i64 y.size] 85)) [.string y.name] 9 (wr.heap.size+1) (by simp))
    clear hy ho hx hbw
    go_wp2_with (at_builtin;refine wpList_append_own _ rfl (.tmp 15) (.tmp 18) _ rfl (w.heap.size+1) 9 i0 _ 1 16 Tryd.underlying41 HI0.out.1 HI0.out.2.1 HI0.out.2.2.1 HI0.out.2.2.2 rfl (by omega) (.slice A4 j c4) j _ rfl (by exact HPRE.out) ⟨wr.heap.size+1,0,none⟩ 1 1 [.string y.name] rfl rfl (by exact HNW.out) (by simp[Value.oneCell']) (by simp only[maxLen];omega) (by omega) (by simp;omega) ?_
                 intro v6 w6 hown6 hg6 _
                 have HG6:=hid hg6
                 have HO6:=hid hown6
                 clear hown6 hg6)
    go_roundw
    case rel=>
     have hoB:∀ k,(Value.slice A4 j c4).ownBlock=some k→w.heap.size+1≤k:=fun k hk=>(zH HO.out k hk).1
     refine⟨j+1,by omega,by go_num,?_,?_,((HBW.out.alloc (by omega) _).alloc (by simp;omega) _).grown HG6.out (by simp;omega) fun k hk=>by have:=hoB k hk;omega,?_⟩
     · rw[take_snoc HY.out,List.map_append]
       exact HO6.out
     · exact(HG6.out.block _ (by simp;omega) (fun e=>by have:=hoB _ e.symm;omega)).trans ((Below.heap_alloc _ _ _ (by simp;omega)).trans ((Below.heap_alloc _ _ _ (by omega)).trans HX.out))
     · have:=HG6.out.size
       simp at this
       omega
    case measure=>simp[intOf];omega
  · have hjl:j=p.arrays.length:=by omega
    subst hjl
    have HO2:=hid (show wr.ownsRow (w.heap.size+1) 9 1 (.slice A4 p.arrays.length c4) p.arrays.length ((p.arrays.map (·.name)).map Value.string) by rw[List.take_of_length_le (Nat.le_refl _)]at ho;exact ho)
    clear ho hbw hx
    go_wp2_with (fail)
    go_loopw [3,24] (fun vv iv wr2=>∃ j:Nat,j≤p.funcs.length∧iv=.int .i64 j∧wr2.ownsRow (w.heap.size+1) 9 1 vv (p.arrays.length+j) ((p.arrays.map (·.name)++(p.funcs.take j).map (·.name)).map Value.string)∧Below w.heap.size w wr2∧w.heap.size+1≤wr2.heap.size) (fun _ iv _=>p.funcs.length-(intOf iv).toNat)
    case atStart=>exact⟨0,Nat.zero_le _,rfl,by simpa using HO2.out,HBW.out,hs1⟩
    case round=>
     obtain⟨j,hj,rfl,ho,hbw,hs2⟩:=hrel
     obtain⟨A5,c5,rfl⟩:=zp ho
     have HO5:=hid ho
     have HBW5:=hid hbw
     by_cases hlt:j<p.funcs.length
     · obtain⟨y,hy⟩:∃ e,p.funcs[j]? =some e:=⟨_,List.getElem?_eq_getElem hlt⟩
       obtain⟨g,o,v2,v3,rfl,hg,q0,q1,q2,q3,hp,hb⟩:=(HF.out.below (hbw.mono hB) (Nat.le_refl _)).cells hy
       obtain⟨A6,c6,rfl,_⟩:=hp.form
       obtain⟨A7,c7,rfl,_⟩:=hb.form
       have HY:=hid hy
       have hgs:g<wr.heap.size:=by omega
       have HPRE:=hid (zh (zh ho (.cells #[.string y.name,.int .i64 y.type,.slice A6 y.params.length c6,.slice A7 y.body.length c7] 39)) (.cells #[.string y.name] 9))
       have HNW:=hid (jJ (wr.alloc (.cells #[.string y.name,.int .i64 y.type,.slice A6 y.params.length c6,.slice A7 y.body.length c7] 39)) [.string y.name] 9 (wr.heap.size+1) (by simp))
       clear hy ho hbw hp hb
       go_wp2_with (at_builtin;refine wpList_append_own _ rfl (.tmp 28) (.tmp 31) _ rfl (w.heap.size+1) 9 i0 _ 1 16 Tryd.underlying41 HI0.out.1 HI0.out.2.1 HI0.out.2.2.1 HI0.out.2.2.2 rfl (by omega) (.slice A5 (p.arrays.length+j) c5) (p.arrays.length+j) _ rfl (by exact HPRE.out) ⟨wr.heap.size+1,0,none⟩ 1 1 [.string y.name] rfl rfl (by exact HNW.out) (by simp[Value.oneCell']) (by simp only[maxLen];omega) (by omega) (by simp;omega) ?_
                    intro v6 w6 hown6 hg6 _
                    have HG6:=hid hg6
                    have HO6:=hid hown6
                    clear hown6 hg6)
       go_roundw
       case rel=>
        have hoB:∀ k,(Value.slice A5 (p.arrays.length+j) c5).ownBlock=some k→w.heap.size+1≤k:=fun k hk=>(zH HO5.out k hk).1
        refine⟨j+1,by omega,by go_num,?_,((HBW5.out.alloc (by omega) _).alloc (by simp;omega) _).grown HG6.out (by simp;omega) fun k hk=>by have:=hoB k hk;omega,?_⟩
        · rw[take_snoc HY.out,←List.append_assoc,List.map_append]
          exact HO6.out
        · have:=HG6.out.size
          simp at this
          omega
       case measure=>simp[intOf];omega
     · have hjl:j=p.funcs.length:=by omega
       subst hjl
       clear ho hbw
       go_wp2_with (fail)
       go_ret
       refine⟨_,rfl,?_,HBW5.out⟩
       have ho2:=HO5.out
       rw[List.take_of_length_le (Nat.le_refl _)]at ho2
       exact own_names ho2 (by simp) (by simp;omega)
set_option maxHeartbeats 2000000 in
theorem startable_any (B:Nat) (p:Pr) (r:Bool) (v0 v1:Value) (w:World) (hB:B≤w.heap.size) (ha:SlA B w v0 p.arrays) (hf:SlF B w v1 p.funcs) (hr:yI p=r):
 Calls Tryd.prog 25 #[.agg #[v0,v1]] w fun e w'=>e=.returned (.bool r)∧Below w.heap.size w w':=by
 obtain⟨A0,c0,rfl,_⟩:=ha.form
 obtain⟨A1,c1,rfl,hn⟩:=hf.form
 have HA:=hid (ha.below ((Below.refl B w).alloc hB (ze A0 p.arrays.length c0 A1 p.funcs.length c1)) (Nat.le_refl _))
 have HF:=hid (hf.below ((Below.refl B w).alloc hB (ze A0 p.arrays.length c0 A1 p.funcs.length c1)) (Nat.le_refl _))
 have HR:=hid hr
 clear ha hf hr
 cases hk:qF p.funcs ⟨#[109,97,105,110]⟩ with
 | none=>
   have HK:=hid (show jQ (qF p.funcs ⟨#[109,97,105,110]⟩)= -1 by rw[hk];rfl)
   have HM:=hid (show yI p=false by unfold yI kn;rw[hk];rfl)
   clear hk
   go_enter Tryd.func25,Tryd.ntmps25
   go_wp2_with (go_at_call 20;(with_reducible refine(place_is B p _ _ HK.out _ _ _ (by simp;omega) HA.out HF.out).mono ?_);rintro e w1 ⟨rfl,hb⟩)
   go_ret
   exact⟨zD (by rw[←HR.out,HM.out]),((Below.refl _ _).alloc (Nat.le_refl _) _).trans (hb.mono (by simp))⟩
 | some k=>
   obtain⟨f,hkf,_,_⟩:=yS hk
   have HK:=hid (show jQ (qF p.funcs ⟨#[109,97,105,110]⟩)=(k:Int) by rw[hk];rfl)
   have HM:=hid (show yI p=(decide (f.type=1) && decide (f.params.length=0)) by unfold yI kn;rw[hk,Option.bind_some,hkf])
   have HKF:=hid hkf
   have hkl:k<p.funcs.length:=(List.getElem?_eq_some_iff.1 hkf).1
   clear hk hkf
   have hcase:f.type=1∧f.params.length=0∨f.type=1∧f.params.length≠0∨f.type≠1:=by omega
   rcases hcase with⟨h1,h2⟩ | ⟨h1,h2⟩ | h1
   all_goals
    have HC1:=hid h1
    try have HC2:=hid h2
    try clear h2
    clear h1
    go_enter Tryd.func25,Tryd.ntmps25
    go_wp2_with (go_at_call 20;(with_reducible refine(place_is B p _ _ HK.out _ _ _ (by simp;omega) HA.out HF.out).mono ?_);rintro e w1 ⟨rfl,hb⟩
                 have hx0:=(hb.block w.heap.size (by simp)).trans (heap_alloc_new w (ze A0 p.arrays.length c0 A1 p.funcs.length c1))
                 obtain⟨⟨q0,q1⟩,qz⟩:=zE hx0
                 have hs1:w.heap.size<w1.heap.size:=zB hx0
                 obtain⟨g,o,v2,v3,rfl,hg,z0,z1,z2,z3,hp,hbo⟩:=(HF.out.below (hb.mono (by simp;omega)) (Nat.le_refl _)).cells HKF.out
                 obtain⟨A2,c2,rfl,_⟩:=hp.form
                 have hgs:g<w1.heap.size:=by omega
                 have HB1:=hid (show Below w.heap.size w w1 from((Below.refl _ _).alloc (Nat.le_refl _) _).trans (hb.mono (by simp)))
                 try rw[HC1.out]at z1
                 try rw[HC2.out]at z2
                 clear hb hx0 hp hbo)
    all_goals go_ret
    all_goals refine⟨zD ?_,HB1.out⟩
    all_goals
     rw[←HR.out,HM.out]
     have e1:=HC1.out
     try have e2:=HC2.out
     simp_all
abbrev fuO (s:ByteArray) (t:Int) (v2 v3:Value):Obj:=.cells #[.string s,.int .i64 t,v2,v3] 39
theorem bdW {B:Nat} {a w:World} (h:Below B a w) (n:Nat):Below B a (w.drewN n):=h.trans ⟨rfl,rfl,rfl,Nat.le_refl _,fun _ _=>rfl⟩
theorem chkF_dup {p:Pr} {f:Fu} (h:dupP f.params=true):kg p f=(50,0):=by unfold kg;rw[if_pos h]
theorem chkF_list {p:Pr} {f:Fu} (h:dupP f.params=false) {R:Int × Nat} (hR:zU p f.type f.body f.params f.params.length false 0=R) (h0:R.1≠0):kg p f=R:=by
 unfold kg
 rw[if_neg (by rw[h];decide),hR,if_pos h0]
theorem chkF_end {p:Pr} {f:Fu} (h:dupP f.params=false) {n:Nat} (hR:zU p f.type f.body f.params f.params.length false 0=(0,n)):kg p f=if qr f.body then (0,0) else (52,n):=by
 unfold kg
 rw[if_neg (by rw[h];decide),hR,if_neg (show ¬ (0 :Int)≠0 by decide)]
theorem kl {p:Pr} {f:Fu} (h:prOK p=true) (hf:f ∈ p.funcs):zj f.body 100=true∧f.params.length≤8:=by
 unfold prOK at h
 rw[Bool.and_eq_true,List.all_eq_true,List.all_eq_true]at h
 have h1:=h.2 f hf
 unfold xc at h1
 simp only[Bool.and_eq_true,decide_eq_true_eq]at h1
 exact⟨h1.2,h1.1.1.2⟩
set_option maxHeartbeats 4000000 in
theorem function_any (B:Nat) (p:Pr) (f:Fu) (hok:prOK p=true) (hsz:Sized p) (hfm:f ∈ p.funcs) (v0 v1 v2 v3:Value) (w:World) (hB:B≤w.heap.size) (ha:SlA B w v0 p.arrays) (hf:SlF B w v1 p.funcs) (hps:SlP B w v2 f.params) (hbd:SlS B w v3 f.body) (r:Int × Nat) (hr:kg p f=r):
 Calls Tryd.prog 26 #[.agg #[v0,v1],.agg #[.string f.name,.int .i64 f.type,v2,v3]] w fun e w'=>e=.returned (.tuple #[.int .i64 r.1,.int .i64 (W64 r.2)])∧Below w.heap.size w w':=by
 obtain⟨A0,c0,rfl,_⟩:=ha.form
 obtain⟨A1,c1,rfl,_⟩:=hf.form
 obtain⟨A2,c2,rfl,_⟩:=hps.form
 obtain⟨A3,c3,rfl,_⟩:=hbd.form
 obtain⟨i0,hi,hz0,hz1,hz2⟩:=info_parts strinfo
 have h8:=(kl hok hfm).2
 have HI0:=hid (And.intro hi (And.intro hz0 (And.intro hz1 hz2)))
 have HA:=hid ha
 have HF:=hid hf
 have HPS:=hid hps
 have HBD:=hid hbd
 have HR:=hid hr
 have HOK:=hid (kl hok hfm).1
 have HFEW:=hid (few_of hok)
 have HSZ:=hid (hsz.2 f hfm).2
 have hbl2:Below w.heap.size w ((w.alloc (ze A0 p.arrays.length c0 A1 p.funcs.length c1)).alloc (fuO f.name f.type (.slice A2 f.params.length c2) (.slice A3 f.body.length c3))):=((Below.refl _ _).alloc (Nat.le_refl _) _).alloc (by simp) _
 have HW2:=hid hbl2
 have HX0:=hid (show ((w.alloc (ze A0 p.arrays.length c0 A1 p.funcs.length c1)).alloc (fuO f.name f.type (.slice A2 f.params.length c2) (.slice A3 f.body.length c3))).heap[w.heap.size]? =some (ze A0 p.arrays.length c0 A1 p.funcs.length c1) from(Below.heap_alloc _ _ _ (by simp)).trans (heap_alloc_new w _))
 have HX1:=hid (show ((w.alloc (ze A0 p.arrays.length c0 A1 p.funcs.length c1)).alloc (fuO f.name f.type (.slice A2 f.params.length c2) (.slice A3 f.body.length c3))).heap[w.heap.size+1]? =some (fuO f.name f.type (.slice A2 f.params.length c2) (.slice A3 f.body.length c3)) from by simpa using heap_alloc_new (w.alloc (ze A0 p.arrays.length c0 A1 p.funcs.length c1)) (fuO f.name f.type (.slice A2 f.params.length c2) (.slice A3 f.body.length c3)))
 clear ha hf hps hbd hr hi hz0 hz1 hz2 hok hsz hfm hbl2
 go_enter Tryd.func26,Tryd.ntmps26
 go_wp2_with (fail)
 go_loopw [6,14] (fun vv iv wr=>∃ j:Nat,j≤f.params.length∧iv=.int .i64 j∧wr.ownsRow (w.heap.size+1+1) 9 1 vv j (((f.params.take j).map (·.name)).map Value.string)∧Below (w.heap.size+1+1) ((w.alloc (ze A0 p.arrays.length c0 A1 p.funcs.length c1)).alloc (fuO f.name f.type (.slice A2 f.params.length c2) (.slice A3 f.body.length c3))) wr) (fun _ iv _=>f.params.length-(intOf iv).toNat)
 case atStart=>exact⟨0,Nat.zero_le _,rfl,World.ownsRow_nil _ _ _ _,Below.refl _ _⟩
 case round=>
  obtain⟨j,hj,rfl,ho,hbw⟩:=hrel
  have hsz:w.heap.size+1+1≤wr.heap.size:=by have:=hbw.size;simpa using this
  have hwr:Below w.heap.size w wr:=HW2.out.trans (hbw.mono (by omega))
  obtain⟨A4,c4,rfl⟩:=zp ho
  obtain⟨⟨r0,r1⟩,rz⟩:=zE ((hbw.block w.heap.size (by omega)).trans HX0.out)
  obtain⟨⟨f0,f1,f2,f3⟩,fz⟩:=zR ((hbw.block (w.heap.size+1) (by omega)).trans HX1.out)
  have hs0:w.heap.size<wr.heap.size:=by omega
  have hs1:w.heap.size+1<wr.heap.size:=by omega
  have HO:=hid ho
  have HBW:=hid hbw
  have HWR:=hid hwr
  by_cases hlt:j<f.params.length
  · obtain⟨y,hy⟩:∃ e,f.params[j]? =some e:=⟨_,List.getElem?_eq_getElem hlt⟩
    obtain⟨g,o,rfl,hg,q0,q1⟩:=(HPS.out.below (hwr.mono hB) (Nat.le_refl _)).cells hy
    have hgs:g<wr.heap.size:=by omega
    have HY:=hid hy
    have HPRE:=hid (zh (zh ho (.cells #[.string y.name,.int .i64 y.type] 44)) (.cells #[.string y.name] 9))
    have HNW:=hid (jJ (wr.alloc (.cells #[.string y.name,.int .i64 y.type] 44)) [.string y.name] 9 (wr.heap.size+1) (by simp))
    clear hy ho hbw hwr
    go_wp2_with (at_builtin;refine wpList_append_own _ rfl (.tmp 18) (.tmp 21) _ rfl (w.heap.size+1+1) 9 i0 _ 1 16 Tryd.underlying41 HI0.out.1 HI0.out.2.1 HI0.out.2.2.1 HI0.out.2.2.2 rfl (by omega) (.slice A4 j c4) j _ rfl (by exact HPRE.out) ⟨wr.heap.size+1,0,none⟩ 1 1 [.string y.name] rfl rfl (by exact HNW.out) (by simp[Value.oneCell']) (by simp only[maxLen];omega) (by omega) (by simp;omega) ?_
                 intro v6 w6 hown6 hg6 _
                 have HG6:=hid hg6
                 have HO6:=hid hown6
                 clear hown6 hg6)
    go_roundw
    case rel=>
     have hoB:∀ k,(Value.slice A4 j c4).ownBlock=some k→w.heap.size+1+1≤k:=fun k hk=>(zH HO.out k hk).1
     refine⟨j+1,by omega,by go_num,?_,((HBW.out.alloc (by omega) _).alloc (by simp;omega) _).grown HG6.out (by simp;omega) fun k hk=>hoB k hk⟩
     rw[take_snoc HY.out,List.map_append]
     exact HO6.out
    case measure=>simp[intOf];omega
  · have hjl:j=f.params.length:=by omega
    subst hjl
    have HN:=hid (show SlN wr.heap.size wr (.slice A4 f.params.length c4) (f.params.map (·.name)) from own_names (by rw[List.take_of_length_le (Nat.le_refl _)]at ho;exact ho) (by simp) (by simp;omega))
    have HZ:=hid (show ∀ s ∈ f.params.map (·.name),s.size≤maxLen from fun s hs=>by
     obtain⟨x,hx,rfl⟩:=List.mem_map.1 hs
     exact HSZ.out x hx)
    obtain⟨dp,hdp⟩:∃ b,dupP f.params=b:=⟨_,rfl⟩
    have HDP:=hid hdp
    have HND:=hid (show nod (f.params.map (·.name))= !dp by rw[nod_params,hdp])
    have HXX0:=hid ((hbw.block w.heap.size (by omega)).trans HX0.out)
    have HXX1:=hid ((hbw.block (w.heap.size+1) (by omega)).trans HX1.out)
    clear ho hbw hwr hdp
    cases dp
    case true=>
     go_wp2_with (go_at_call 23;(with_reducible refine(ju wr.heap.size _ _ _ _ (Nat.le_refl _) HN.out HZ.out HND.out).mono ?_);rintro e w5 ⟨rfl,hb5⟩)
     go_ret2
     have hrr:=chkF_dup (p:=p) HDP.out
     rw[HR.out]at hrr
     subst hrr
     exact⟨rfl,HWR.out.trans (hb5.mono (by omega))⟩
    case false=>
     obtain⟨⟨e1,n1⟩,hcs⟩:∃ R,zU p f.type f.body f.params f.params.length false 0=R:=⟨_,rfl⟩
     have HCS:=hid hcs
     obtain⟨be,hbe⟩:∃ b,qr f.body=b:=⟨_,rfl⟩
     have HBE:=hid hbe
     clear hcs hbe
     by_cases he1:e1=0
     case neg=>
      go_wp2_with (go_at_call 23;(with_reducible refine(ju wr.heap.size _ _ _ _ (Nat.le_refl _) HN.out HZ.out HND.out).mono ?_);rintro e w5 ⟨rfl,hb5⟩
                   obtain⟨⟨r0,r1⟩,rz⟩:=zE ((hb5.block w.heap.size hs0).trans HXX0.out)
                   obtain⟨⟨f0,f1,f2,f3⟩,fz⟩:=zR ((hb5.block (w.heap.size+1) hs1).trans HXX1.out)
                   have HX5:=hid ((hb5.block (w.heap.size+1) hs1).trans HXX1.out)
                   have hs5:w.heap.size+1<w5.heap.size:=by have:=hb5.size;omega
                   have hs50:w.heap.size<w5.heap.size:=by omega
                   have HW5:=hid (show Below w.heap.size w w5 from HWR.out.trans (hb5.mono (by omega)))
                   clear hb5)
      have hwc:Below w5.heap.size w5 (w5.alloc (ckO (.slice A0 p.arrays.length c0) (.slice A1 p.funcs.length c1) f.type 0)).drew:=((Below.refl _ _).alloc (Nat.le_refl _) _).drew
      have HWC:=hid hwc
      have HBC:=hid (show (w5.alloc (ckO (.slice A0 p.arrays.length c0) (.slice A1 p.funcs.length c1) f.type 0)).drew.heap[w5.heap.size]? =some (ckO (.slice A0 p.arrays.length c0) (.slice A1 p.funcs.length c1) f.type (W64 0)) from heap_alloc_new w5 _)
      have HPC:=hid (HPS.out.below ((HW5.out.trans (hwc.mono (by omega))).mono hB) (Nat.le_refl _))
      go_region_held3 (fun w'=>w'.cell? ⟨w.heap.size+1,2,none⟩=some (.slice A2 f.params.length c2)∧w'.cell? ⟨w.heap.size+1,3,none⟩=some (.slice A3 f.body.length c3))
       (first
         | (go_split_ands;refine⟨?_,?_⟩ <;> (first | (rw[hk7];assumption) | (rw[hk6];assumption)))
         | go_keep)
       (first
         | (go_at_call 52
            (refine(xZ (w5.alloc (ckO (.slice A0 p.arrays.length c0) (.slice A1 p.funcs.length c1) f.type 0)).drew (w5.heap.size+1) (w5.heap.size+1) B (.pointer none) (.pointer none) [] f.params _ (by show _≤(w5.alloc _).heap.size;rw[zA];omega) (by show _≤(w5.alloc _).heap.size;rw[zA];omega) (ui.nil _ _) (by show _≤(w5.alloc _).heap.size;rw[zA];omega) (Seg.none _ _ _ _ (Nat.le_refl _)) HPC.out).mono ?_)
            rintro e w6 ⟨v',rfl,hs6,hb6⟩
            obtain⟨qv,rfl⟩:=(hs6.fin (ui.nil _ _)).form
            have hb6':Below w5.heap.size w5 w6:=HWC.out.trans (hb6.mono (by show _≤(w5.alloc _).heap.size;rw[zA];omega))
            have hk6:∀ x,w6.cell? ⟨w.heap.size+1,x,none⟩=w5.cell? ⟨w.heap.size+1,x,none⟩:=fun x=>hb6'.cell (p:=⟨w.heap.size+1,x,none⟩) hs5
            have hs6z:w5.heap.size+1≤w6.heap.size:=Nat.le_trans (Nat.le_of_eq (zA _ _).symm) hb6.size
            have hbc6:=(hb6.block w5.heap.size (by show _<(w5.alloc _).heap.size;rw[zA];omega)).trans HBC.out
            have HBC6:=hid hbc6
            have hw6:Below w.heap.size w w6:=HW5.out.trans (hb6'.mono (by omega))
            have HW6:=hid hw6
            have HE6:=hid (show Env B (w5.heap.size+1) p f.params (.slice A0 p.arrays.length c0) (.slice A1 p.funcs.length c1) (.pointer qv) w6 from⟨by omega,by omega,HA.out.below (hw6.mono hB) (Nat.le_refl _),HF.out.below (hw6.mono hB) (Nat.le_refl _),by rw[List.append_nil]at hs6;exact hs6⟩)
            have HB6:=hid (HBD.out.below (hw6.mono hB) (Nat.le_refl _))
            have HX6:=hid ((hb6'.block (w.heap.size+1) hs5).trans HX5.out)
            clear hs6 hb6 hb6' hbc6 hw6)
         | (go_at_call 51
            (refine((list_all 100).call HOK.out HFEW.out HCS.out HE6.out (by omega) (by omega) HBC6.out HB6.out).mono ?_)
            rintro e w7 ⟨rfl,ho7,hb7⟩
            have hk7:∀ x,w7.cell? ⟨w.heap.size+1,x,none⟩=w6.cell? ⟨w.heap.size+1,x,none⟩:=fun x=>ho7.cell (by omega) (by omega)
            have hk6:∀ x,w7.cell? ⟨w.heap.size+1,x,none⟩=w5.cell? ⟨w.heap.size+1,x,none⟩:=fun x=>(hk7 x).trans (hk6 x)
            obtain⟨⟨b0,b1,b2,b3⟩,bz⟩:=zR hb7
            have hs7:w5.heap.size<w7.heap.size:=zB hb7
            have HW7:=hid (show Below w.heap.size w w7 from HW6.out.trans (jt ho7 HW6.out.size (by omega)))
            have HX7:=hid ((ho7.block (k:=w.heap.size+1) (by omega) (by omega)).trans HX6.out)
            clear ho7 hb7))
      go_wp2_with (fail)
      go_quiet (fail)
      go_wp2_with (fail)
      go_ret2
      have hrr:=chkF_list (p:=p) HDP.out HCS.out he1
      rw[HR.out]at hrr
      subst hrr
      exact⟨rfl,bdW HW7.out _⟩
     case pos=>
      subst he1
      go_wp2_with (go_at_call 23;(with_reducible refine(ju wr.heap.size _ _ _ _ (Nat.le_refl _) HN.out HZ.out HND.out).mono ?_);rintro e w5 ⟨rfl,hb5⟩
                   obtain⟨⟨r0,r1⟩,rz⟩:=zE ((hb5.block w.heap.size hs0).trans HXX0.out)
                   obtain⟨⟨f0,f1,f2,f3⟩,fz⟩:=zR ((hb5.block (w.heap.size+1) hs1).trans HXX1.out)
                   have HX5:=hid ((hb5.block (w.heap.size+1) hs1).trans HXX1.out)
                   have hs5:w.heap.size+1<w5.heap.size:=by have:=hb5.size;omega
                   have hs50:w.heap.size<w5.heap.size:=by omega
                   have HW5:=hid (show Below w.heap.size w w5 from HWR.out.trans (hb5.mono (by omega)))
                   clear hb5)
      have hwc:Below w5.heap.size w5 (w5.alloc (ckO (.slice A0 p.arrays.length c0) (.slice A1 p.funcs.length c1) f.type 0)).drew:=((Below.refl _ _).alloc (Nat.le_refl _) _).drew
      have HWC:=hid hwc
      have HBC:=hid (show (w5.alloc (ckO (.slice A0 p.arrays.length c0) (.slice A1 p.funcs.length c1) f.type 0)).drew.heap[w5.heap.size]? =some (ckO (.slice A0 p.arrays.length c0) (.slice A1 p.funcs.length c1) f.type (W64 0)) from heap_alloc_new w5 _)
      have HPC:=hid (HPS.out.below ((HW5.out.trans (hwc.mono (by omega))).mono hB) (Nat.le_refl _))
      go_region_held3 (fun w'=>w'.cell? ⟨w.heap.size+1,2,none⟩=some (.slice A2 f.params.length c2)∧w'.cell? ⟨w.heap.size+1,3,none⟩=some (.slice A3 f.body.length c3))
       (first
         | (go_split_ands;refine⟨?_,?_⟩ <;> (first | (rw[hk7];assumption) | (rw[hk6];assumption)))
         | go_keep)
       (first
         | (go_at_call 52
            (refine(xZ (w5.alloc (ckO (.slice A0 p.arrays.length c0) (.slice A1 p.funcs.length c1) f.type 0)).drew (w5.heap.size+1) (w5.heap.size+1) B (.pointer none) (.pointer none) [] f.params _ (by show _≤(w5.alloc _).heap.size;rw[zA];omega) (by show _≤(w5.alloc _).heap.size;rw[zA];omega) (ui.nil _ _) (by show _≤(w5.alloc _).heap.size;rw[zA];omega) (Seg.none _ _ _ _ (Nat.le_refl _)) HPC.out).mono ?_)
            rintro e w6 ⟨v',rfl,hs6,hb6⟩
            obtain⟨qv,rfl⟩:=(hs6.fin (ui.nil _ _)).form
            have hb6':Below w5.heap.size w5 w6:=HWC.out.trans (hb6.mono (by show _≤(w5.alloc _).heap.size;rw[zA];omega))
            have hk6:∀ x,w6.cell? ⟨w.heap.size+1,x,none⟩=w5.cell? ⟨w.heap.size+1,x,none⟩:=fun x=>hb6'.cell (p:=⟨w.heap.size+1,x,none⟩) hs5
            have hs6z:w5.heap.size+1≤w6.heap.size:=Nat.le_trans (Nat.le_of_eq (zA _ _).symm) hb6.size
            have hbc6:=(hb6.block w5.heap.size (by show _<(w5.alloc _).heap.size;rw[zA];omega)).trans HBC.out
            have HBC6:=hid hbc6
            have hw6:Below w.heap.size w w6:=HW5.out.trans (hb6'.mono (by omega))
            have HW6:=hid hw6
            have HE6:=hid (show Env B (w5.heap.size+1) p f.params (.slice A0 p.arrays.length c0) (.slice A1 p.funcs.length c1) (.pointer qv) w6 from⟨by omega,by omega,HA.out.below (hw6.mono hB) (Nat.le_refl _),HF.out.below (hw6.mono hB) (Nat.le_refl _),by rw[List.append_nil]at hs6;exact hs6⟩)
            have HB6:=hid (HBD.out.below (hw6.mono hB) (Nat.le_refl _))
            have HX6:=hid ((hb6'.block (w.heap.size+1) hs5).trans HX5.out)
            clear hs6 hb6 hb6' hbc6 hw6)
         | (go_at_call 51
            (refine((list_all 100).call HOK.out HFEW.out HCS.out HE6.out (by omega) (by omega) HBC6.out HB6.out).mono ?_)
            rintro e w7 ⟨rfl,ho7,hb7⟩
            have hk7:∀ x,w7.cell? ⟨w.heap.size+1,x,none⟩=w6.cell? ⟨w.heap.size+1,x,none⟩:=fun x=>ho7.cell (by omega) (by omega)
            have hk6:∀ x,w7.cell? ⟨w.heap.size+1,x,none⟩=w5.cell? ⟨w.heap.size+1,x,none⟩:=fun x=>(hk7 x).trans (hk6 x)
            obtain⟨⟨b0,b1,b2,b3⟩,bz⟩:=zR hb7
            have hs7:w5.heap.size<w7.heap.size:=zB hb7
            have HW7:=hid (show Below w.heap.size w w7 from HW6.out.trans (jt ho7 HW6.out.size (by omega)))
            have HX7:=hid ((ho7.block (k:=w.heap.size+1) (by omega) (by omega)).trans HX6.out)
            clear ho7 hb7))
      obtain⟨⟨f0',f1',f2',f3'⟩,fz'⟩:=zR HX7.out
      have hs71:w.heap.size+1<w7.heap.size:=by omega
      have HB7:=hid (HBD.out.below (HW7.out.mono hB) (Nat.le_refl _))
      have hrr:=chkF_end (p:=p) HDP.out HCS.out
      rw[HR.out]at hrr
      have HRR:=hid hrr
      clear hrr
      cases be
      case true=>
       go_wp2_with (go_at_call 13;(with_reducible refine((vq 100).call HOK.out HBE.out (Nat.le_trans hB HW7.out.size) HB7.out).mono ?_);rintro e w8 ⟨rfl,hb8⟩)
       go_ret2
       have hrr:=HRR.out
       rw[HBE.out]at hrr
       subst hrr
       exact⟨rfl,HW7.out.trans (hb8.mono HW7.out.size)⟩
      case false=>
       go_wp2_with (go_at_call 13;(with_reducible refine((vq 100).call HOK.out HBE.out (Nat.le_trans hB HW7.out.size) HB7.out).mono ?_);rintro e w8 ⟨rfl,hb8⟩
                    have b38:w8.cell? ⟨w5.heap.size,2+1,none⟩=some (.int .i64 (W64 n1)):=(hb8.cell (p:=⟨w5.heap.size,3,none⟩) hs7).trans b3
                    have b39:w8.cell? ⟨w5.heap.size,3,none⟩=some (.int .i64 (W64 n1)):=b38
                    have hs8:w5.heap.size<w8.heap.size:=by have:=hb8.size;omega
                    have HW8:=hid (show Below w.heap.size w w8 from HW7.out.trans (hb8.mono HW7.out.size))
                    clear hb8 b38)
       go_quiet (fail)
       go_wp2_with (fail)
       go_ret2
       have hrr:=HRR.out
       rw[HBE.out]at hrr
       subst hrr
       exact⟨rfl,bdW HW8.out _⟩
theorem formS_rest {k ty:Int} {name:ByteArray} {a b c:Nat} {d:Bool} (h4:k≠4) (h5:k≠5) (h:zX k ty name a b c d=true):b=0∧c=0:=by
 unfold zX at h
 rw[if_neg h4,if_neg h5]at h
 split at h
 · simp_all
 split at h
 · simp_all
 split at h
 · simp_all
 split at h
 · simp_all
 split at h
 · simp_all
 split at h
 · simp_all
 · cases h
theorem formS_five {ty:Int} {name:ByteArray} {a b c:Nat} {d:Bool} (h:zX 5 ty name a b c d=true):c=0:=by
 unfold zX at h
 simp at h
 exact h.2
mutual
theorem cntS_len:∀ (s:St) (m t:Nat),stOK s m=true→cntS s≤(stT s t).length
 | .mk k ty name args thn els,m,t,h=>by
   rw[stOK]at h
   simp only[Bool.and_eq_true]at h
   have h1:=uB thn (m-1) (t+1) h.1.2
   have h2:=uB els (m-1) (t+1) h.2
   have hf:=h.1.1.1.2
   rw[cntS,stT]
   by_cases h4:k=4
   · subst h4
     rw[if_pos rfl]
     by_cases he:els.length=0
     · obtain rfl:=List.eq_nil_of_length_eq_zero he
       rw[show cntSs []=0 from by rw[cntSs]]
       simp only[List.length_append,List.length_cons]
       omega
     · rw[if_neg he]
       simp only[List.length_append,List.length_cons]
       omega
   · rw[if_neg h4]
     by_cases h5:k=5
     · subst h5
       rw[if_pos rfl]
       obtain rfl:=List.eq_nil_of_length_eq_zero (formS_five hf)
       rw[show cntSs []=0 from by rw[cntSs]]
       simp only[List.length_append,List.length_cons]
       omega
     · rw[if_neg h5]
       obtain⟨e1,e2⟩:=formS_rest h4 h5 hf
       obtain rfl:=List.eq_nil_of_length_eq_zero e1
       obtain rfl:=List.eq_nil_of_length_eq_zero e2
       rw[show cntSs []=0 from by rw[cntSs]]
       simp only[List.length_append,List.length_cons]
       omega
theorem uB:∀ (l:List St) (m t:Nat),zj l m=true→cntSs l≤(xP l t).length
 | [],m,t,h=>by rw[cntSs];exact Nat.zero_le _
 | s :: r,m,t,h=>by
   rw[zj,Bool.and_eq_true]at h
   have h1:=cntS_len s m t h.1
   have h2:=uB r m t h.2
   rw[cntSs,xP,List.length_append]
   omega
end
theorem flat_mem {α:Type} {f:α→List UInt8}:∀ {l:List α} {x:α},x ∈ l→(f x).length≤((l.map f).flatten).length
 | y :: r,x,h=>by
   rw[List.map_cons,List.flatten_cons,List.length_append]
   rcases List.mem_cons.1 h with rfl | h
   · omega
   · have:=flat_mem (f:=f) h
     omega
theorem flat_cnt {α:Type} {f:α→List UInt8} (hf:∀ x,1≤(f x).length):∀ l:List α,l.length≤((l.map f).flatten).length
 | []=>Nat.le_refl _
 | y :: r=>by
   have h1:=flat_cnt hf r
   have h2:=hf y
   rw[List.map_cons,List.flatten_cons,List.length_append,List.length_cons]
   omega
theorem paT_len (x:Pa):x.name.size+1≤(paT x).length:=by
 unfold paT
 rw[List.length_append,List.length_cons,bsz]
 omega
theorem joinC_len:∀ l:List (List UInt8),(l.flatten).length≤(qu l).length
 | []=>Nat.le_refl _
 | [x]=>by rw[qu,List.flatten_cons,List.flatten_nil,List.append_nil];exact Nat.le_refl _
 | x :: y :: r=>by
   have:=joinC_len (y :: r)
   rw[qu,List.flatten_cons]
   simp only[List.length_append,List.length_cons]at *
   omega
theorem px_mem {l:List Pa} {x:Pa} (h:x ∈ l):x.name.size≤PX l:=by
 unfold PX
 have h1:=joinC_len (l.map paT)
 have h2:=flat_mem (f:=paT) h
 have h3:=paT_len x
 omega
theorem px_cnt (l:List Pa):l.length≤PX l:=by
 unfold PX
 have h1:=joinC_len (l.map paT)
 have h2:=flat_cnt (f:=paT) (fun x=>by have:=paT_len x;omega) l
 omega
theorem sized_of {p:Pr} {n:Nat} (hok:prOK p=true) (h:(prT p).length≤n) (hn:n≤1000000):
 Sized p∧p.arrays.length≤1000000∧p.funcs.length≤1000000∧∀ f ∈ p.funcs,f.params.length+cntSs f.body≤1000000000:=by
 have hm:(1000000 :Nat)≤maxLen:=by unfold maxLen;omega
 have hpr:(prT p).length=((p.arrays.map arT).flatten).length+((p.funcs.map fuT).flatten).length:=by unfold prT;rw[List.length_append]
 have ha:∀ a ∈ p.arrays,(arT a).length≤n:=fun a ha=>by have:=flat_mem (f:=arT) ha;omega
 have hf:∀ f ∈ p.funcs,(fuT f).length≤n:=fun f hf=>by have:=flat_mem (f:=fuT) hf;omega
 refine⟨⟨fun a h1=>?_,fun f h1=>⟨?_,fun x hx=>?_⟩⟩,?_,?_,fun f h1=>?_⟩
 · have:=ha a h1;rw[ar_len]at this;omega
 · have:=hf f h1;rw[fu_len]at this;omega
 · have h2:=hf f h1;rw[fu_len]at h2
   have h3:=px_mem hx
   omega
 · have:=flat_cnt (f:=arT) (fun a=>by rw[ar_len];omega) p.arrays;omega
 · have:=flat_cnt (f:=fuT) (fun f=>by rw[fu_len];omega) p.funcs;omega
 · have h2:=hf f h1;rw[fu_len]at h2
   have h3:=px_cnt f.params
   have h4:=uB f.body 100 1 (kl hok h1).1
   omega
end Go.Proofs.YtndgkfkieogplaaDoor
