import Derived.Test.YtfghofifjnbicaaGreatDoorAhZed
import Derived.Test.YtfghofifjnbicaaGreatDoorAhTyLs
import Derived.Test.YtfghofifjnbicaaGreatDoorAhParTot
set_option linter.unusedSimpArgs false
set_option linter.unusedVariables false
set_option maxRecDepth 100000
/- The names of arrays and functions; where a run begins: package types. -/
namespace Go.Proofs.YtfghofifjnbicaaGreatDoor
open Lib (hid)
open Go.RowKit
def Sized (p:Pr):Prop:=(∀ a ∈ p.arrays,a.name.size≤maxLen)∧∀ f ∈ p.funcs,f.name.size≤maxLen∧∀ x ∈ f.params,x.name.size≤maxLen
theorem js {s:ByteArray}:∀ {l:List Fu},(qN l s).isSome=l.any fun f=>decide (f.name=s)
 | []=>rfl
 | f :: r=>by
   rw[qN,List.any_cons];by_cases h:f.name=s
   · simp[h]
   · rw[if_neg h,Option.isSome_map,js]
     simp[h]
theorem ks {s:ByteArray}:∀ {l:List Ar},(qb l s).isSome=l.any fun f=>decide (f.name=s)
 | []=>rfl
 | f :: r=>by
   rw[qb,List.any_cons];by_cases h:f.name=s
   · simp[h]
   · rw[if_neg h,Option.isSome_map,ks]
     simp[h]
theorem kt {s:ByteArray}:∀ {l:List Pa},(z5 l s).isSome=l.any fun f=>decide (f.name=s)
 | []=>rfl
 | f :: r=>by
   rw[z5,List.any_cons,←kt (l:=r)];cases z5 r s with
   | some t=>simp
   | none=>
     by_cases h:f.name=s
     · simp[h]
     · simp[h]
theorem nod_params:∀ l:List Pa,nod (l.map (·.name))= !ub l
 | []=>rfl
 | x :: r=>by
   rw[List.map_cons,nod,ub,nod_params r,kt,List.any_map,Bool.not_or];rfl
theorem nod_app:∀ (a b:List ByteArray),nod (a++b)=(nod a && nod b && !(a.any fun s=>b.any fun x=>decide (x=s)))
 | [],b=>by simp[nod]
 | s :: r,b=>by
   rw[List.cons_append,nod,nod,nod_app r b,List.any_append,List.any_cons];cases(r.any fun x=>decide (x=s)) <;> cases(b.any fun x=>decide (x=s)) <;> cases nod r <;> cases nod b <;> simp
theorem nod_funs:∀ l:List Fu,nod (l.map (·.name))= !vu l
 | []=>rfl
 | x :: r=>by
   rw[List.map_cons,nod,vu,nod_funs r,js,List.any_map,Bool.not_or];rfl
theorem nod_arrs (p:Pr):∀ l:List Ar,(nod (l.map (·.name)) && !((l.map (·.name)).any fun s=>(p.funcs.map (·.name)).any fun x=>decide (x=s)))= !yy p l
 | []=>rfl
 | x :: r=>by
   rw[List.map_cons,nod,yy,List.any_cons,Bool.not_or,Bool.not_or,Bool.not_or,←nod_arrs p r,ks,js,List.any_map,List.any_map];simp only[Function.comp_def];cases(r.any fun f=>decide (f.name=x.name)) <;> cases(p.funcs.any fun f=>decide (f.name=x.name)) <;> simp
theorem nod_globals (p:Pr):nod (p.arrays.map (·.name)++p.funcs.map (·.name))= !(yy p p.arrays || vu p.funcs):=by
 rw[nod_app,nod_funs,Bool.not_or,←nod_arrs p p.arrays];cases nod (p.arrays.map (·.name)) <;> cases vu p.funcs <;> simp
theorem own_names {w:World} {base:Nat} {e:TypeId} {v:Value} {n:Nat} {l:List ByteArray} (h:w.ownsRow base e 1 v n (l.map Value.string)) (hn:n=l.length) (hl:l.length≤281474976710656):SlN w.heap.size w v l:=by
 subst hn;rcases h.2 with⟨rfl,h0⟩ | ⟨g,cap,cur,rfl,h1,h2,h3,h4,h5,h6⟩
 · obtain rfl:l=[]:=List.eq_nil_of_length_eq_zero h0
   exact⟨none,0,rfl,Nat.zero_le _,fun h=>absurd h (by simp)⟩
 · have hg:g<w.heap.size:=(Array.getElem?_eq_some_iff.1 h2).1
   refine⟨_,cap,rfl,hl,fun _=>⟨g,0,rfl,?_⟩⟩
   have hc:∀ j t,l[j]? =some t→w.cell? ⟨g,0+j,none⟩=some (.string t):=fun j t hj=>by
    rw[Nat.zero_add,Lib.cell_of_heap h2]
    have h7:(cur.toList.take (l.length * 1))[j]? =some (Value.string t):=by
     rw[h6,List.getElem?_map,hj];rfl
    rw[List.getElem?_take]at h7;split at h7
    · simpa using h7
    · cases h7
   clear h h1 h2 h3 h4 h5 h6 hl
   have gen:∀ (m:List ByteArray) (o:Nat),(∀ j t,m[j]? =some t→w.cell? ⟨g,o+j,none⟩=some (.string t))→xn 1 (fun (s:ByteArray) g o=>CellB w.heap.size w g o (.string s)) m g o:=by
    intro m
    induction m with
    | nil=>intro _ _;trivial
    | cons t r ih=>
      intro o h
      exact⟨⟨hg,h 0 t rfl⟩,ih (o+1) fun j u hj=>by
       rw[show o+1+j=o+(j+1) by omega]
       exact h (j+1) u (by simpa using hj)⟩
   exact gen l 0 hc
theorem strinfo:(Tryz.prog.info? 9).map (fun i=>(i.zero,i.size,i.bytes))=some (some (.string ⟨#[]⟩),1,16):=by kernel_rfl
theorem take_snoc {α β:Type} {f:α→β} {l:List α} {j:Nat} {x:α} (h:l[j]? =some x):(l.take (j+1)).map f=(l.take j).map f++[f x]:=by
 rw[List.take_add_one,h];simp
set_option maxHeartbeats 2000000 in
theorem xv (B:Nat) (p:Pr) (v0 v1:Value) (w:World) (hB:B≤w.heap.size) (ha:SlA B w v0 p.arrays) (hf:SlF B w v1 p.funcs) (hn1:p.arrays.length≤1000000) (hn2:p.funcs.length≤1000000):
 Calls Tryz.prog 50 #[.agg #[v0,v1]] w fun e w'=>∃ v,e=.returned v∧SlN w'.heap.size w' v (p.arrays.map (·.name)++p.funcs.map (·.name))∧Below w.heap.size w w':=by
 obtain⟨A0,c0,rfl,_⟩:=ha.form;obtain⟨A1,c1,rfl,_⟩:=hf.form;obtain⟨i0,hi,hz0,hz1,hz2⟩:=info_parts strinfo;have HI0:=hid (And.intro hi (And.intro hz0 (And.intro hz1 hz2)));have HA:=hid ha;have HF:=hid hf;clear ha hf hi hz0 hz1 hz2;go_enter Tryz.func50,Tryz.ntmps50;go_wp2_with (fail)
 go_loopw [3,11] (fun vv iv wr=>∃ j:Nat,j≤p.arrays.length∧iv=.int .i64 j∧wr.ownsRow (w.heap.size+1) 9 1 vv j (((p.arrays.take j).map (·.name)).map Value.string)∧wr.heap[w.heap.size]? =some (pgO A0 p.arrays.length c0 A1 p.funcs.length c1)∧Below w.heap.size w wr∧w.heap.size+1≤wr.heap.size) (fun _ iv _=>p.arrays.length-(intOf iv).toNat)
 case atStart=>exact⟨0,Nat.zero_le _,rfl,World.ownsRow_nil _ _ _ _,heap_alloc_new _ _,Zb.alloc Zr _,by rw[zA];omega⟩
 case round=>
  obtain⟨j,hj,rfl,ho,hx,hbw,hs1⟩:=hrel;obtain⟨A4,c4,rfl⟩:=qT ho;obtain⟨⟨r0,r1⟩,rz⟩:=zE hx;have HO:=hid ho;have HX:=hid hx;have HBW:=hid hbw;by_cases hlt:j<p.arrays.length
  · obtain⟨y,hy⟩:∃ e,p.arrays[j]? =some e:=⟨_,List.getElem?_eq_getElem hlt⟩
    obtain⟨g,o,rfl,hg,q0,q1⟩:=(HA.out.below (hbw.mono hB) Zr).cells hy;have hgs:g<wr.heap.size:=by omega
    have HY:=hid hy;have HPRE:=hid (zv (zv ho (.cells #[.string y.name,.int .i64 y.size] 62)) (.cells #[.string y.name] 9));have HNW:=hid (jH (wr.alloc (.cells #[.string y.name,.int .i64 y.size] 62)) [.string y.name] 9 (wr.heap.size+1) (by simp));clear hy ho hx hbw
    go_wp2_with (at_builtin;refine wpList_append_own _ rfl (.tmp 15) (.tmp 18) _ rfl (w.heap.size+1) 9 i0 _ 1 16 Tryz.underlying41 HI0.out.1 HI0.out.2.1 HI0.out.2.2.1 HI0.out.2.2.2 rfl (by omega) (.slice A4 j c4) j _ rfl (by exact HPRE.out) ⟨wr.heap.size+1,0,none⟩ 1 1 [.string y.name] rfl rfl (by exact HNW.out) (by simp[Value.oneCell']) (by simp only[maxLen];omega) (by omega) (by simp;omega) ?_
                 intro v6 w6 hown6 hg6 _;have HG6:=hid hg6;have HO6:=hid hown6
                 clear hown6 hg6)
    go_roundw
    case rel=>
     have hoB:∀ k,(Value.slice A4 j c4).ownBlock=some k→w.heap.size+1≤k:=fun k hk=>(zM HO.out k hk).1
     refine⟨j+1,by omega,by go_num,?_,?_,((HBW.out.alloc (by omega) _).alloc (by simp;omega) _).grown HG6.out (by simp;omega) fun k hk=>by have:=hoB k hk;omega,?_⟩
     · rw[take_snoc HY.out,List.map_append]
       exact HO6.out
     · exact(HG6.out.block _ (by simp;omega) (fun e=>by have:=hoB _ e.symm;omega)).trans ((Below.heap_alloc _ _ _ (by simp;omega)).trans ((Below.heap_alloc _ _ _ (by omega)).trans HX.out))
     · have:=HG6.out.size
       simp at this;omega
    case measure=>simp[intOf];omega
  · have hjl:j=p.arrays.length:=by omega
    subst hjl;have HO2:=hid (show wr.ownsRow (w.heap.size+1) 9 1 (.slice A4 p.arrays.length c4) p.arrays.length ((p.arrays.map (·.name)).map Value.string) by rw[List.take_of_length_le Zr]at ho;exact ho);clear ho hbw hx;go_wp2_with (fail)
    go_loopw [3,24] (fun vv iv wr2=>∃ j:Nat,j≤p.funcs.length∧iv=.int .i64 j∧wr2.ownsRow (w.heap.size+1) 9 1 vv (p.arrays.length+j) ((p.arrays.map (·.name)++(p.funcs.take j).map (·.name)).map Value.string)∧Below w.heap.size w wr2∧w.heap.size+1≤wr2.heap.size) (fun _ iv _=>p.funcs.length-(intOf iv).toNat)
    case atStart=>exact⟨0,Nat.zero_le _,rfl,by simpa using HO2.out,HBW.out,hs1⟩
    case round=>
     obtain⟨j,hj,rfl,ho,hbw,hs2⟩:=hrel;obtain⟨A5,c5,rfl⟩:=qT ho;have HO5:=hid ho;have HBW5:=hid hbw;by_cases hlt:j<p.funcs.length
     · obtain⟨y,hy⟩:∃ e,p.funcs[j]? =some e:=⟨_,List.getElem?_eq_getElem hlt⟩
       obtain⟨g,o,v2,v3,rfl,hg,q0,q1,q2,q3,hp,hb⟩:=(HF.out.below (hbw.mono hB) Zr).cells hy;obtain⟨A6,c6,rfl,_⟩:=hp.form;obtain⟨A7,c7,rfl,_⟩:=hb.form;have HY:=hid hy;have hgs:g<wr.heap.size:=by omega
       have HPRE:=hid (zv (zv ho (.cells #[.string y.name,.int .i64 y.type,.slice A6 y.params.length c6,.slice A7 y.body.length c7] 45)) (.cells #[.string y.name] 9));have HNW:=hid (jH (wr.alloc (.cells #[.string y.name,.int .i64 y.type,.slice A6 y.params.length c6,.slice A7 y.body.length c7] 45)) [.string y.name] 9 (wr.heap.size+1) (by simp));clear hy ho hbw hp hb
       go_wp2_with (at_builtin;refine wpList_append_own _ rfl (.tmp 28) (.tmp 31) _ rfl (w.heap.size+1) 9 i0 _ 1 16 Tryz.underlying41 HI0.out.1 HI0.out.2.1 HI0.out.2.2.1 HI0.out.2.2.2 rfl (by omega) (.slice A5 (p.arrays.length+j) c5) (p.arrays.length+j) _ rfl (by exact HPRE.out) ⟨wr.heap.size+1,0,none⟩ 1 1 [.string y.name] rfl rfl (by exact HNW.out) (by simp[Value.oneCell']) (by simp only[maxLen];omega) (by omega) (by simp;omega) ?_
                    intro v6 w6 hown6 hg6 _;have HG6:=hid hg6;have HO6:=hid hown6
                    clear hown6 hg6)
       go_roundw
       case rel=>
        have hoB:∀ k,(Value.slice A5 (p.arrays.length+j) c5).ownBlock=some k→w.heap.size+1≤k:=fun k hk=>(zM HO5.out k hk).1
        refine⟨j+1,by omega,by go_num,?_,((HBW5.out.alloc (by omega) _).alloc (by simp;omega) _).grown HG6.out (by simp;omega) fun k hk=>by have:=hoB k hk;omega,?_⟩
        · rw[take_snoc HY.out,←List.append_assoc,List.map_append]
          exact HO6.out
        · have:=HG6.out.size
          simp at this;omega
       case measure=>simp[intOf];omega
     · have hjl:j=p.funcs.length:=by omega
       subst hjl;clear ho hbw;go_wp2_with (fail);go_ret;refine⟨_,rfl,?_,HBW5.out⟩;have ho2:=HO5.out;rw[List.take_of_length_le Zr]at ho2;exact own_names ho2 (by simp) (by simp;omega)
set_option maxHeartbeats 2000000 in
theorem uF (B:Nat) (p:Pr) (r:Bool) (v0 v1:Value) (w:World) (hB:B≤w.heap.size) (ha:SlA B w v0 p.arrays) (hf:SlF B w v1 p.funcs) (hr:xH p=r):
 Calls Tryz.prog 51 #[.agg #[v0,v1]] w fun e w'=>e=.returned (.bool r)∧Below w.heap.size w w':=by
 obtain⟨A0,c0,rfl,_⟩:=ha.form;obtain⟨A1,c1,rfl,hn⟩:=hf.form;have HA:=hid (ha.below ((Below.refl B w).alloc hB (pgO A0 p.arrays.length c0 A1 p.funcs.length c1)) Zr);have HF:=hid (hf.below ((Below.refl B w).alloc hB (pgO A0 p.arrays.length c0 A1 p.funcs.length c1)) Zr);have HR:=hid hr;clear ha hf hr;cases hk:qN p.funcs ⟨#[109,97,105,110]⟩ with
 | none=>
   have HK:=hid (show jY (qN p.funcs ⟨#[109,97,105,110]⟩)= -1 by rw[hk];rfl);have HM:=hid (show xH p=false by unfold xH xK;rw[hk];rfl);clear hk;go_enter Tryz.func51,Tryz.ntmps51;go_wp2_with (go_at_call 73;(with_reducible refine(uj B p _ _ HK.out _ _ _ (by simp;omega) HA.out HF.out).mono ?_);rintro e w1 ⟨rfl,hb⟩);go_ret;exact⟨zC (by rw[←HR.out,HM.out]),(Zb.alloc Zr _).trans (hb.mono (by simp))⟩
 | some k=>
   obtain⟨f,hkf,_,_⟩:=xO hk;have HK:=hid (show jY (qN p.funcs ⟨#[109,97,105,110]⟩)=(k:Int) by rw[hk];rfl);have HM:=hid (show xH p=(decide (f.type=1) && decide (f.params.length=0)) by unfold xH xK;rw[hk,Option.bind_some,hkf]);have HKF:=hid hkf;have hkl:k<p.funcs.length:=(List.getElem?_eq_some_iff.1 hkf).1;clear hk hkf;have hcase:f.type=1∧f.params.length=0∨f.type=1∧f.params.length≠0∨f.type≠1:=by omega
   rcases hcase with⟨h1,h2⟩ | ⟨h1,h2⟩ | h1
   all_goals
    have HC1:=hid h1
    try have HC2:=hid h2
    try clear h2
    clear h1;go_enter Tryz.func51,Tryz.ntmps51
    go_wp2_with (go_at_call 73;(with_reducible refine(uj B p _ _ HK.out _ _ _ (by simp;omega) HA.out HF.out).mono ?_);rintro e w1 ⟨rfl,hb⟩
                 have hx0:=(hb.block w.heap.size (by simp)).trans (heap_alloc_new w (pgO A0 p.arrays.length c0 A1 p.funcs.length c1));obtain⟨⟨q0,q1⟩,qz⟩:=zE hx0;have hs1:w.heap.size<w1.heap.size:=zB hx0;obtain⟨g,o,v2,v3,rfl,hg,z0,z1,z2,z3,hp,hbo⟩:=(HF.out.below (hb.mono (by simp;omega)) Zr).cells HKF.out;obtain⟨A2,c2,rfl,_⟩:=hp.form;have hgs:g<w1.heap.size:=by omega
                 have HB1:=hid (show Below w.heap.size w w1 from(Zb.alloc Zr _).trans (hb.mono (by simp)))
                 try rw[HC1.out]at z1
                 try rw[HC2.out]at z2
                 clear hb hx0 hp hbo)
    all_goals go_ret
    all_goals refine⟨zC ?_,HB1.out⟩
    all_goals
     rw[←HR.out,HM.out];have e1:=HC1.out
     try have e2:=HC2.out
     simp_all
abbrev fuO (s:ByteArray) (t:Int) (v2 v3:Value):Obj:=.cells #[.string s,.int .i64 t,v2,v3] 45
theorem bdW {B:Nat} {a w:World} (h:Below B a w) (n:Nat):Below B a (w.drewN n):=h.trans ⟨rfl,rfl,rfl,Nat.le_refl _,fun _ _=>rfl⟩
theorem chkF_dup {p:Pr} {f:Fu} (h:ub f.params=true):xM p f=(50,0):=by unfold xM;rw[if_pos h]
theorem chkF_list {p:Pr} {f:Fu} (h:ub f.params=false) {R:Int × Nat} (hR:zd p f.type f.body f.params f.params.length false 0=R) (h0:R.1≠0):xM p f=R:=by
 unfold xM;rw[if_neg (by rw[h];decide),hR,if_pos h0]
theorem chkF_end {p:Pr} {f:Fu} (h:ub f.params=false) {n:Nat} (hR:zd p f.type f.body f.params f.params.length false 0=(0,n)):xM p f=if jL f.body then (0,0) else (52,n):=by
 unfold xM;rw[if_neg (by rw[h];decide),hR,if_neg (show ¬ (0 :Int)≠0 by decide)]
theorem fu_params {p:Pr} {f:Fu} (h:prOK p=true) (hf:f ∈ p.funcs):z8 f.body 100=true∧f.params.length≤8:=by
 unfold prOK at h;rw[Bool.and_eq_true,List.all_eq_true,List.all_eq_true]at h;have h1:=h.2 f hf;unfold k8 at h1;simp only[Bool.and_eq_true,decide_eq_true_eq]at h1;exact⟨h1.2,h1.1.1.2⟩
set_option maxHeartbeats 4000000 in
theorem uq (B:Nat) (p:Pr) (f:Fu) (hok:prOK p=true) (hsz:Sized p) (hfm:f ∈ p.funcs) (v0 v1 v2 v3:Value) (w:World) (hB:B≤w.heap.size) (ha:SlA B w v0 p.arrays) (hf:SlF B w v1 p.funcs) (hps:SlP B w v2 f.params) (hbd:SlS B w v3 f.body) (r:Int × Nat) (hr:xM p f=r):
 Calls Tryz.prog 52 #[.agg #[v0,v1],.agg #[.string f.name,.int .i64 f.type,v2,v3]] w fun e w'=>e=.returned (.tuple #[.int .i64 r.1,.int .i64 (W64 r.2)])∧Below w.heap.size w w':=by
 obtain⟨A0,c0,rfl,_⟩:=ha.form;obtain⟨A1,c1,rfl,_⟩:=hf.form;obtain⟨A2,c2,rfl,_⟩:=hps.form;obtain⟨A3,c3,rfl,_⟩:=hbd.form;obtain⟨i0,hi,hz0,hz1,hz2⟩:=info_parts strinfo;have h8:=(fu_params hok hfm).2;have HI0:=hid (And.intro hi (And.intro hz0 (And.intro hz1 hz2)));have HA:=hid ha;have HF:=hid hf;have HPS:=hid hps;have HBD:=hid hbd;have HR:=hid hr;have HOK:=hid (fu_params hok hfm).1;have HFEW:=hid (few_of hok);have HSZ:=hid (hsz.2 f hfm).2;have hbl2:Below w.heap.size w ((w.alloc (pgO A0 p.arrays.length c0 A1 p.funcs.length c1)).alloc (fuO f.name f.type (.slice A2 f.params.length c2) (.slice A3 f.body.length c3))):=(Zb.alloc Zr _).alloc (by simp) _;have HW2:=hid hbl2;have HX0:=hid (show ((w.alloc (pgO A0 p.arrays.length c0 A1 p.funcs.length c1)).alloc (fuO f.name f.type (.slice A2 f.params.length c2) (.slice A3 f.body.length c3))).heap[w.heap.size]? =some (pgO A0 p.arrays.length c0 A1 p.funcs.length c1) from(Below.heap_alloc _ _ _ (by simp)).trans (heap_alloc_new w _));have HX1:=hid (show ((w.alloc (pgO A0 p.arrays.length c0 A1 p.funcs.length c1)).alloc (fuO f.name f.type (.slice A2 f.params.length c2) (.slice A3 f.body.length c3))).heap[w.heap.size+1]? =some (fuO f.name f.type (.slice A2 f.params.length c2) (.slice A3 f.body.length c3)) from by simpa using heap_alloc_new (w.alloc (pgO A0 p.arrays.length c0 A1 p.funcs.length c1)) (fuO f.name f.type (.slice A2 f.params.length c2) (.slice A3 f.body.length c3)));clear ha hf hps hbd hr hi hz0 hz1 hz2 hok hsz hfm hbl2
 go_enter Tryz.func52,Tryz.ntmps52;go_wp2_with (fail)
 go_loopw [6,14] (fun vv iv wr=>∃ j:Nat,j≤f.params.length∧iv=.int .i64 j∧wr.ownsRow (w.heap.size+1+1) 9 1 vv j (((f.params.take j).map (·.name)).map Value.string)∧Below (w.heap.size+1+1) ((w.alloc (pgO A0 p.arrays.length c0 A1 p.funcs.length c1)).alloc (fuO f.name f.type (.slice A2 f.params.length c2) (.slice A3 f.body.length c3))) wr) (fun _ iv _=>f.params.length-(intOf iv).toNat)
 case atStart=>exact⟨0,Nat.zero_le _,rfl,World.ownsRow_nil _ _ _ _,Below.refl _ _⟩
 case round=>
  obtain⟨j,hj,rfl,ho,hbw⟩:=hrel;have hsz:w.heap.size+1+1≤wr.heap.size:=by have:=hbw.size;simpa using this
  have hwr:Below w.heap.size w wr:=HW2.out.trans (hbw.mono (by omega));obtain⟨A4,c4,rfl⟩:=qT ho;obtain⟨⟨r0,r1⟩,rz⟩:=zE ((hbw.block w.heap.size (by omega)).trans HX0.out);obtain⟨⟨f0,f1,f2,f3⟩,fz⟩:=zI ((hbw.block (w.heap.size+1) (by omega)).trans HX1.out);have hs0:w.heap.size<wr.heap.size:=by omega
  have hs1:w.heap.size+1<wr.heap.size:=by omega
  have HO:=hid ho;have HBW:=hid hbw;have HWR:=hid hwr;by_cases hlt:j<f.params.length
  · obtain⟨y,hy⟩:∃ e,f.params[j]? =some e:=⟨_,List.getElem?_eq_getElem hlt⟩
    obtain⟨g,o,rfl,hg,q0,q1⟩:=(HPS.out.below (hwr.mono hB) Zr).cells hy;have hgs:g<wr.heap.size:=by omega
    have HY:=hid hy;have HPRE:=hid (zv (zv ho (.cells #[.string y.name,.int .i64 y.type] 47)) (.cells #[.string y.name] 9));have HNW:=hid (jH (wr.alloc (.cells #[.string y.name,.int .i64 y.type] 47)) [.string y.name] 9 (wr.heap.size+1) (by simp));clear hy ho hbw hwr
    go_wp2_with (at_builtin;refine wpList_append_own _ rfl (.tmp 18) (.tmp 21) _ rfl (w.heap.size+1+1) 9 i0 _ 1 16 Tryz.underlying41 HI0.out.1 HI0.out.2.1 HI0.out.2.2.1 HI0.out.2.2.2 rfl (by omega) (.slice A4 j c4) j _ rfl (by exact HPRE.out) ⟨wr.heap.size+1,0,none⟩ 1 1 [.string y.name] rfl rfl (by exact HNW.out) (by simp[Value.oneCell']) (by simp only[maxLen];omega) (by omega) (by simp;omega) ?_
                 intro v6 w6 hown6 hg6 _;have HG6:=hid hg6;have HO6:=hid hown6
                 clear hown6 hg6)
    go_roundw
    case rel=>
     have hoB:∀ k,(Value.slice A4 j c4).ownBlock=some k→w.heap.size+1+1≤k:=fun k hk=>(zM HO.out k hk).1
     refine⟨j+1,by omega,by go_num,?_,((HBW.out.alloc (by omega) _).alloc (by simp;omega) _).grown HG6.out (by simp;omega) fun k hk=>hoB k hk⟩;rw[take_snoc HY.out,List.map_append];exact HO6.out
    case measure=>simp[intOf];omega
  · have hjl:j=f.params.length:=by omega
    subst hjl;have HN:=hid (show SlN wr.heap.size wr (.slice A4 f.params.length c4) (f.params.map (·.name)) from own_names (by rw[List.take_of_length_le Zr]at ho;exact ho) (by simp) (by simp;omega))
    have HZ:=hid (show ∀ s ∈ f.params.map (·.name),s.size≤maxLen from fun s hs=>by
     obtain⟨x,hx,rfl⟩:=List.mem_map.1 hs
     exact HSZ.out x hx)
    obtain⟨dp,hdp⟩:∃ b,ub f.params=b:=⟨_,rfl⟩
    have HDP:=hid hdp;have HND:=hid (show nod (f.params.map (·.name))= !dp by rw[nod_params,hdp]);have HXX0:=hid ((hbw.block w.heap.size (by omega)).trans HX0.out);have HXX1:=hid ((hbw.block (w.heap.size+1) (by omega)).trans HX1.out);clear ho hbw hwr hdp;cases dp
    case true=>
     go_wp2_with (go_at_call 49;(with_reducible refine(jU wr.heap.size _ _ _ _ Zr HN.out HZ.out HND.out).mono ?_);rintro e w5 ⟨rfl,hb5⟩)
     go_ret2
     have hrr:=chkF_dup (p:=p) HDP.out;rw[HR.out]at hrr;subst hrr;exact⟨rfl,HWR.out.trans (hb5.mono (by omega))⟩
    case false=>
     obtain⟨⟨e1,n1⟩,hcs⟩:∃ R,zd p f.type f.body f.params f.params.length false 0=R:=⟨_,rfl⟩
     have HCS:=hid hcs;obtain⟨be,hbe⟩:∃ b,jL f.body=b:=⟨_,rfl⟩
     have HBE:=hid hbe;clear hcs hbe;by_cases he1:e1=0
     case neg=>
      go_wp2_with (go_at_call 49;(with_reducible refine(jU wr.heap.size _ _ _ _ Zr HN.out HZ.out HND.out).mono ?_);rintro e w5 ⟨rfl,hb5⟩
                   obtain⟨⟨r0,r1⟩,rz⟩:=zE ((hb5.block w.heap.size hs0).trans HXX0.out);obtain⟨⟨f0,f1,f2,f3⟩,fz⟩:=zI ((hb5.block (w.heap.size+1) hs1).trans HXX1.out);have HX5:=hid ((hb5.block (w.heap.size+1) hs1).trans HXX1.out);have hs5:w.heap.size+1<w5.heap.size:=by have:=hb5.size;omega
                   have hs50:w.heap.size<w5.heap.size:=by omega
                   have HW5:=hid (show Below w.heap.size w w5 from HWR.out.trans (hb5.mono (by omega)))
                   clear hb5)
      have hwc:Below w5.heap.size w5 (w5.alloc (ckO (.slice A0 p.arrays.length c0) (.slice A1 p.funcs.length c1) f.type 0)).drew:=(Zb.alloc Zr _).drew;have HWC:=hid hwc;have HBC:=hid (show (w5.alloc (ckO (.slice A0 p.arrays.length c0) (.slice A1 p.funcs.length c1) f.type 0)).drew.heap[w5.heap.size]? =some (ckO (.slice A0 p.arrays.length c0) (.slice A1 p.funcs.length c1) f.type (W64 0)) from heap_alloc_new w5 _);have HPC:=hid (HPS.out.below ((HW5.out.trans (hwc.mono (by omega))).mono hB) Zr)
      go_region_held3 (fun w'=>w'.cell? ⟨w.heap.size+1,2,none⟩=some (.slice A2 f.params.length c2)∧w'.cell? ⟨w.heap.size+1,3,none⟩=some (.slice A3 f.body.length c3))
       (first
         | (go_split_ands;refine⟨?_,?_⟩ <;> (first | (rw[hk7];assumption) | (rw[hk6];assumption)))
         | go_keep)
       (first
         | (go_at_call 75
            (refine(kz (w5.alloc (ckO (.slice A0 p.arrays.length c0) (.slice A1 p.funcs.length c1) f.type 0)).drew (w5.heap.size+1) (w5.heap.size+1) B (.pointer none) (.pointer none) [] f.params _ (by show _≤(w5.alloc _).heap.size;rw[zA];omega) (by show _≤(w5.alloc _).heap.size;rw[zA];omega) (vd.nil _ _) (by show _≤(w5.alloc _).heap.size;rw[zA];omega) (Seg.none _ _ _ _ Zr) HPC.out).mono ?_)
            rintro e w6 ⟨v',rfl,hs6,hb6⟩;obtain⟨qv,rfl⟩:=(hs6.fin (vd.nil _ _)).form;have hb6':Below w5.heap.size w5 w6:=HWC.out.trans (hb6.mono (by show _≤(w5.alloc _).heap.size;rw[zA];omega));have hk6:∀ x,w6.cell? ⟨w.heap.size+1,x,none⟩=w5.cell? ⟨w.heap.size+1,x,none⟩:=fun x=>hb6'.cell (p:=⟨w.heap.size+1,x,none⟩) hs5
            have hs6z:w5.heap.size+1≤w6.heap.size:=Nat.le_trans (Nat.le_of_eq (zA _ _).symm) hb6.size;have hbc6:=(hb6.block w5.heap.size (by show _<(w5.alloc _).heap.size;rw[zA];omega)).trans HBC.out;have HBC6:=hid hbc6;have hw6:Below w.heap.size w w6:=HW5.out.trans (hb6'.mono (by omega));have HW6:=hid hw6;have HE6:=hid (show Env B (w5.heap.size+1) p f.params (.slice A0 p.arrays.length c0) (.slice A1 p.funcs.length c1) (.pointer qv) w6 from⟨by omega,by omega,HA.out.below (hw6.mono hB) Zr,HF.out.below (hw6.mono hB) Zr,by rw[List.append_nil]at hs6;exact hs6⟩);have HB6:=hid (HBD.out.below (hw6.mono hB) Zr);have HX6:=hid ((hb6'.block (w.heap.size+1) hs5).trans HX5.out)
            clear hs6 hb6 hb6' hbc6 hw6)
         | (go_at_call 74
            (refine((list_all 100).call HOK.out HFEW.out HCS.out HE6.out (by omega) (by omega) HBC6.out HB6.out).mono ?_)
            rintro e w7 ⟨rfl,ho7,hb7⟩;have hk7:∀ x,w7.cell? ⟨w.heap.size+1,x,none⟩=w6.cell? ⟨w.heap.size+1,x,none⟩:=fun x=>ho7.cell (by omega) (by omega)
            have hk6:∀ x,w7.cell? ⟨w.heap.size+1,x,none⟩=w5.cell? ⟨w.heap.size+1,x,none⟩:=fun x=>(hk7 x).trans (hk6 x)
            obtain⟨⟨b0,b1,b2,b3⟩,bz⟩:=zI hb7;have hs7:w5.heap.size<w7.heap.size:=zB hb7;have HW7:=hid (show Below w.heap.size w w7 from HW6.out.trans (qt ho7 HW6.out.size (by omega)));have HX7:=hid ((ho7.block (k:=w.heap.size+1) (by omega) (by omega)).trans HX6.out)
            clear ho7 hb7))
      go_wp2_with (fail)
      go_quiet (fail)
      go_wp2_with (fail)
      go_ret2
      have hrr:=chkF_list (p:=p) HDP.out HCS.out he1;rw[HR.out]at hrr;subst hrr;exact⟨rfl,bdW HW7.out _⟩
     case pos=>
      subst he1
      go_wp2_with (go_at_call 49;(with_reducible refine(jU wr.heap.size _ _ _ _ Zr HN.out HZ.out HND.out).mono ?_);rintro e w5 ⟨rfl,hb5⟩
                   obtain⟨⟨r0,r1⟩,rz⟩:=zE ((hb5.block w.heap.size hs0).trans HXX0.out);obtain⟨⟨f0,f1,f2,f3⟩,fz⟩:=zI ((hb5.block (w.heap.size+1) hs1).trans HXX1.out);have HX5:=hid ((hb5.block (w.heap.size+1) hs1).trans HXX1.out);have hs5:w.heap.size+1<w5.heap.size:=by have:=hb5.size;omega
                   have hs50:w.heap.size<w5.heap.size:=by omega
                   have HW5:=hid (show Below w.heap.size w w5 from HWR.out.trans (hb5.mono (by omega)))
                   clear hb5)
      have hwc:Below w5.heap.size w5 (w5.alloc (ckO (.slice A0 p.arrays.length c0) (.slice A1 p.funcs.length c1) f.type 0)).drew:=(Zb.alloc Zr _).drew;have HWC:=hid hwc;have HBC:=hid (show (w5.alloc (ckO (.slice A0 p.arrays.length c0) (.slice A1 p.funcs.length c1) f.type 0)).drew.heap[w5.heap.size]? =some (ckO (.slice A0 p.arrays.length c0) (.slice A1 p.funcs.length c1) f.type (W64 0)) from heap_alloc_new w5 _);have HPC:=hid (HPS.out.below ((HW5.out.trans (hwc.mono (by omega))).mono hB) Zr)
      go_region_held3 (fun w'=>w'.cell? ⟨w.heap.size+1,2,none⟩=some (.slice A2 f.params.length c2)∧w'.cell? ⟨w.heap.size+1,3,none⟩=some (.slice A3 f.body.length c3))
       (first
         | (go_split_ands;refine⟨?_,?_⟩ <;> (first | (rw[hk7];assumption) | (rw[hk6];assumption)))
         | go_keep)
       (first
         | (go_at_call 75
            (refine(kz (w5.alloc (ckO (.slice A0 p.arrays.length c0) (.slice A1 p.funcs.length c1) f.type 0)).drew (w5.heap.size+1) (w5.heap.size+1) B (.pointer none) (.pointer none) [] f.params _ (by show _≤(w5.alloc _).heap.size;rw[zA];omega) (by show _≤(w5.alloc _).heap.size;rw[zA];omega) (vd.nil _ _) (by show _≤(w5.alloc _).heap.size;rw[zA];omega) (Seg.none _ _ _ _ Zr) HPC.out).mono ?_)
            rintro e w6 ⟨v',rfl,hs6,hb6⟩;obtain⟨qv,rfl⟩:=(hs6.fin (vd.nil _ _)).form;have hb6':Below w5.heap.size w5 w6:=HWC.out.trans (hb6.mono (by show _≤(w5.alloc _).heap.size;rw[zA];omega));have hk6:∀ x,w6.cell? ⟨w.heap.size+1,x,none⟩=w5.cell? ⟨w.heap.size+1,x,none⟩:=fun x=>hb6'.cell (p:=⟨w.heap.size+1,x,none⟩) hs5
            have hs6z:w5.heap.size+1≤w6.heap.size:=Nat.le_trans (Nat.le_of_eq (zA _ _).symm) hb6.size;have hbc6:=(hb6.block w5.heap.size (by show _<(w5.alloc _).heap.size;rw[zA];omega)).trans HBC.out;have HBC6:=hid hbc6;have hw6:Below w.heap.size w w6:=HW5.out.trans (hb6'.mono (by omega));have HW6:=hid hw6;have HE6:=hid (show Env B (w5.heap.size+1) p f.params (.slice A0 p.arrays.length c0) (.slice A1 p.funcs.length c1) (.pointer qv) w6 from⟨by omega,by omega,HA.out.below (hw6.mono hB) Zr,HF.out.below (hw6.mono hB) Zr,by rw[List.append_nil]at hs6;exact hs6⟩);have HB6:=hid (HBD.out.below (hw6.mono hB) Zr);have HX6:=hid ((hb6'.block (w.heap.size+1) hs5).trans HX5.out)
            clear hs6 hb6 hb6' hbc6 hw6)
         | (go_at_call 74
            (refine((list_all 100).call HOK.out HFEW.out HCS.out HE6.out (by omega) (by omega) HBC6.out HB6.out).mono ?_)
            rintro e w7 ⟨rfl,ho7,hb7⟩;have hk7:∀ x,w7.cell? ⟨w.heap.size+1,x,none⟩=w6.cell? ⟨w.heap.size+1,x,none⟩:=fun x=>ho7.cell (by omega) (by omega)
            have hk6:∀ x,w7.cell? ⟨w.heap.size+1,x,none⟩=w5.cell? ⟨w.heap.size+1,x,none⟩:=fun x=>(hk7 x).trans (hk6 x)
            obtain⟨⟨b0,b1,b2,b3⟩,bz⟩:=zI hb7;have hs7:w5.heap.size<w7.heap.size:=zB hb7;have HW7:=hid (show Below w.heap.size w w7 from HW6.out.trans (qt ho7 HW6.out.size (by omega)));have HX7:=hid ((ho7.block (k:=w.heap.size+1) (by omega) (by omega)).trans HX6.out)
            clear ho7 hb7))
      obtain⟨⟨f0',f1',f2',f3'⟩,fz'⟩:=zI HX7.out;have hs71:w.heap.size+1<w7.heap.size:=by omega
      have HB7:=hid (HBD.out.below (HW7.out.mono hB) Zr);have hrr:=chkF_end (p:=p) HDP.out HCS.out;rw[HR.out]at hrr;have HRR:=hid hrr;clear hrr;cases be
      case true=>
       go_wp2_with (go_at_call 76;(with_reducible refine((ends_all 100).call HOK.out HBE.out (Nat.le_trans hB HW7.out.size) HB7.out).mono ?_);rintro e w8 ⟨rfl,hb8⟩)
       go_ret2
       have hrr:=HRR.out;rw[HBE.out]at hrr;subst hrr;exact⟨rfl,HW7.out.trans (hb8.mono HW7.out.size)⟩
      case false=>
       go_wp2_with (go_at_call 76;(with_reducible refine((ends_all 100).call HOK.out HBE.out (Nat.le_trans hB HW7.out.size) HB7.out).mono ?_);rintro e w8 ⟨rfl,hb8⟩
                    have b38:w8.cell? ⟨w5.heap.size,2+1,none⟩=some (.int .i64 (W64 n1)):=(hb8.cell (p:=⟨w5.heap.size,3,none⟩) hs7).trans b3;have b39:w8.cell? ⟨w5.heap.size,3,none⟩=some (.int .i64 (W64 n1)):=b38;have hs8:w5.heap.size<w8.heap.size:=by have:=hb8.size;omega
                    have HW8:=hid (show Below w.heap.size w w8 from HW7.out.trans (hb8.mono HW7.out.size))
                    clear hb8 b38)
       go_quiet (fail)
       go_wp2_with (fail)
       go_ret2
       have hrr:=HRR.out;rw[HBE.out]at hrr;subst hrr;exact⟨rfl,bdW HW8.out _⟩
theorem fndO_snoc:∀ (l:kM) (s t:ByteArray),yD (l++[(s,t)]) s=some t
 | [],s,t=>by rw[List.nil_append,yD,yD];exact if_pos rfl
 | x :: r,s,t=>by rw[List.cons_append,yD,fndO_snoc r s t]
theorem fnd_snoc (l:kM) (s t:ByteArray):fnd (l++[(s,t)]) s=t:=fnd_of (fndO_snoc l s t)
def nmS (k:Int) (name:ByteArray) (all:kM) (n:Nat):ByteArray:=if k=1∨k=2 then fnd (xb k name all n) name else name
theorem parN_len:∀ (l:List Pa) (n:Nat),(parN l n).length=l.length
 | [],_=>rfl
 | x :: r,n=>by rw[parN,List.length_cons,List.length_cons,parN_len r]
end Go.Proofs.YtfghofifjnbicaaGreatDoor
