import Derived.Test.YtfghofifjnbicaaGreatDoorAhZed
import Derived.Test.YtfghofifjnbicaaGreatDoorAhParFn
import Derived.Test.YtfghofifjnbicaaGreatDoorAhTreeRightF
import Derived.Test.YtfghofifjnbicaaGreatDoorAhParNums
import Derived.Deep.DeepCutAuto
import Derived.Test.YtfghofifjnbicaaGreatDoorAhParBlk
import Derived.Test.YtfghofifjnbicaaGreatDoorAhTyGlo
set_option linter.unusedSimpArgs false
set_option linter.unusedVariables false
set_option maxRecDepth 100000
/- The developers' renaming: a program. (By tools/gen_rndp.py.) -/
namespace Go.Proofs.YtfghofifjnbicaaGreatDoor
open Lib (hid)
open Go.RowKit Go.Maps
theorem kf_cells {B L:Nat} {w:World} {g c m i:Nat} {ps qs:List FuV} {f:Fu} {v2 v3:Value} (h:OutT kF B L w (.slice (some ⟨g,0,none⟩) m c) ps (⟨f,v2,v3⟩ :: qs)) (hm:m=(ps++(⟨f,v2,v3⟩:FuV) :: qs).length) (hi:ps.length=i):
 (w.cell? ⟨g,i * 4,none⟩=some (.string f.name)∧w.cell? ⟨g,i * 4+1,none⟩=some (.int .i64 f.type)∧w.cell? ⟨g,i * 4+2,none⟩=some v2∧w.cell? ⟨g,i * 4+3,none⟩=some v3)∧∀ o,w.frozen? ⟨g,o,none⟩=false:=by
 subst hi;exact⟨⟨h.cel hm (j:=0) rfl,h.cel hm (j:=1) rfl,h.cel hm (j:=2) rfl,h.cel hm (j:=3) rfl⟩,fun o=>h.frz hm o⟩
abbrev set4o (W:World) (g o:Nat) (c0 c1 c2 c3:Value):World:=(((W.setCell ⟨g,o,none⟩ c0).setCell ⟨g,o+1,none⟩ c1).setCell ⟨g,o+2,none⟩ c2).setCell ⟨g,o+3,none⟩ c3
theorem set4o_block (W:World) (g o:Nat) (c0 c1 c2 c3:Value) (q:Nat) (hq:q≠g):(set4o W g o c0 c1 c2 c3).heap[q]? =W.heap[q]?:=
 (Below.heap_setCell _ _ _ q hq).trans ((Below.heap_setCell _ _ _ q hq).trans ((Below.heap_setCell _ _ _ q hq).trans (Below.heap_setCell _ _ _ q hq)))
theorem set4o_size (W:World) (g o:Nat) (c0 c1 c2 c3:Value):(set4o W g o c0 c1 c2 c3).heap.size=W.heap.size:=by simp[set4o,World.setCell]
theorem set4o_keep (W:World) (g o:Nat) (c0 c1 c2 c3:Value) {L:Nat} (hL:g<L):zD L W (set4o W g o c0 c1 c2 c3):=⟨Nat.le_of_eq (set4o_size W g o c0 c1 c2 c3).symm,fun k _ hk=>set4o_block W g o c0 c1 c2 c3 k (by omega)⟩
theorem set4o_below (W:World) (g o:Nat) (c0 c1 c2 c3:Value) {B:Nat} (hg:B≤g):Below B W (set4o W g o c0 c1 c2 c3):=
 ((((Below.refl B W).setCell (p:=⟨g,o,none⟩) hg c0).setCell (p:=⟨g,o+1,none⟩) hg c1).setCell (p:=⟨g,o+2,none⟩) hg c2).setCell (p:=⟨g,o+3,none⟩) hg c3
theorem kf_set {B L:Nat} {w:World} {g c m i:Nat} {ps qs:List FuV} {f f':Fu} {v2 v3:Value} (h:OutT kF B L w (.slice (some ⟨g,0,none⟩) m c) ps (⟨f,v2,v3⟩ :: qs)) (hm:m=(ps++(⟨f,v2,v3⟩:FuV) :: qs).length) (hi:ps.length=i) (u2 u3:Value):
 OutT kF B L (set4o w g (i * 4) (.string f'.name) (.int .i64 f'.type) u2 u3) (.slice (some ⟨g,0,none⟩) m c) ps (⟨f',u2,u3⟩ :: qs):=by
 have hl:∀ q:FuV,m=(ps++q :: qs).length:=fun q=>by rw[hm];simp
 subst hi;have h1:=h.set (q':=⟨⟨f'.name,f.type,f.params,f.body⟩,v2,v3⟩) hm (i:=ps.length * 4) (j:=0) (u:=.string f'.name) rfl rfl (by decide);have h2:=h1.set (q':=⟨⟨f'.name,f'.type,f.params,f.body⟩,v2,v3⟩) (hl _) (i:=ps.length * 4+1) (j:=1) (u:=.int .i64 f'.type) rfl rfl (by decide);have h3:=h2.set (q':=⟨⟨f'.name,f'.type,f.params,f.body⟩,u2,v3⟩) (hl _) (i:=ps.length * 4+2) (j:=2) (u:=u2) rfl rfl (by decide);exact h3.set (q':=⟨f',u2,u3⟩) (hl _) (i:=ps.length * 4+3) (j:=3) (u:=u3) rfl rfl (by decide)
theorem frk_fu {M:Nat} {W:World} {f:Fu} {v2 v3:Value} (h2:FrPs M W f.params v2) (h3:zT M W f.body v3):FrK kF M W ⟨f,v2,v3⟩:=by
 show SlP W.heap.size (mask (yd M) W) v2 f.params∧SlS W.heap.size (mask (yd M) W) v3 f.body;exact⟨h2,h3⟩
def uA (p:Pr):Pr × Int:=if (uJ p).1=0 then (renPr p,0) else (pr0,1)
def RnPost (p:Pr) (w:World) (e:Ending) (w':World):Prop:=
 ∃ v0 v1,e=.returned (.tuple #[.agg #[v0,v1],.int .i64 (uA p).2])∧Below w.heap.size w w'∧FrG w.heap.size w' (uA p).1 (.agg #[v0,v1])
structure PMid (w:World) (bx:Obj) (W:World):Prop where
 bel:Below w.heap.size w W
 box:W.heap[w.heap.size]? =some bx
 res:W.heap[w.heap.size+1]? =some pgBox
section
variable {w:World} {bx:Obj} {W W':World}
theorem PMid.below (h:PMid w bx W) (hb:Below W.heap.size W W'):PMid w bx W':=⟨h.bel.trans (hb.mono h.bel.size),(hb.block _ (zB h.box)).trans h.box,(hb.block _ (zB h.res)).trans h.res⟩
theorem PMid.keep (h:PMid w bx W) {M:Nat} (hb:Below M W W') (hM:w.heap.size+2≤M):PMid w bx W':=⟨h.bel.trans (hb.mono (by omega)),(hb.block _ (by omega)).trans h.box,(hb.block _ (by omega)).trans h.res⟩
end
structure Cl8 (w:World) (p:Pr) (os:List FuV) (A3:Option Addr) (c3:Nat) (A4:Option Addr) (c4 M L:Nat) (ps:List FuV) (i:Nat) (W:World):Prop where
 mid:PMid w (pgO A3 p.arrays.length c3 A4 p.funcs.length c4) W
 arr:OutK kA (w.heap.size+2) W (.slice A3 p.arrays.length c3) p.arrays
 ab:∀ j,(Value.slice A3 p.arrays.length c3).ownBlock=some j→j<M
 fun_:OutT kF M L W (.slice A4 p.funcs.length c4) ps (os.drop i)
 hM:w.heap.size+2≤M
 hL:M≤L
 sz:L≤W.heap.size
theorem Cl8.below {w:World} {p:Pr} {os:List FuV} {A3:Option Addr} {c3:Nat} {A4:Option Addr} {c4 M L:Nat} {ps:List FuV} {i:Nat} {W W':World} (h:Cl8 w p os A3 c3 A4 c4 M L ps i W) (hb:Below W.heap.size W W'):Cl8 w p os A3 c3 A4 c4 M L ps i W' where
 mid:=h.mid.below hb
 arr:=h.arr.keep (zD.of_below hb)
 ab:=h.ab
 fun_:=h.fun_.below hb
 hM:=h.hM
 hL:=h.hL
 sz:=Nat.le_trans h.sz hb.size
theorem own_up {W:World} {B B':Nat} {T:TypeId} {n m:Nat} {v:Value} {xs:List Value} (h:W.ownsRow B T n v m xs) (hB:B'≤B):W.ownsRow B' T n v m xs:=by
 obtain⟨h1,h2⟩:=h;refine⟨h1,?_⟩;rcases h2 with h2 | ⟨g,cap,cur,hv,hb,h4⟩
 · exact .inl h2
 · exact .inr ⟨g,cap,cur,hv,by omega,h4⟩
theorem Cl8.start {w:World} {p:Pr} {os:List FuV} {A3:Option Addr} {c3:Nat} {A4:Option Addr} {c4:Nat} {W1 w3 w4:World} {bx:Obj} (hm:PMid w bx w4) (h2:w.heap.size+2≤W1.heap.size) (hz:W1.heap.size≤w3.heap.size) (ha:w3.ownsRow W1.heap.size kA.T kA.n (.slice A3 p.arrays.length c3) p.arrays.length (p.arrays.flatMap kA.cs))
 (hb4:Below w3.heap.size w3 w4) (hf:w4.ownsRow w3.heap.size kF.T kF.n (.slice A4 p.funcs.length c4) os.length (os.flatMap kF.cs)) {W:World} (hW:W=(w4.setCell ⟨w.heap.size,0,none⟩ (.slice A3 p.arrays.length c3)).setCell ⟨w.heap.size,1,none⟩ (.slice A4 p.funcs.length c4)) (hbx:W.heap[w.heap.size]? =some (pgO A3 p.arrays.length c3 A4 p.funcs.length c4)):
 Cl8 w p os A3 c3 A4 c4 w3.heap.size w4.heap.size [] 0 W:=by
 subst hW;have hK:zD (w.heap.size+2) w4 ((w4.setCell ⟨w.heap.size,0,none⟩ (.slice A3 p.arrays.length c3)).setCell ⟨w.heap.size,1,none⟩ (.slice A4 p.funcs.length c4)):=(zD.set (by omega) _ _).trans (zD.set (by omega) _ _);have hz4:=hb4.size;refine⟨⟨(hm.bel.setCell (p:=⟨w.heap.size,0,none⟩) Zr _).setCell (p:=⟨w.heap.size,1,none⟩) Zr _,hbx,?_⟩,?_,fun j hj=>(qJ ha j hj).1,?_,by omega,hb4.size,?_⟩
 · exact(Below.heap_setCell _ _ _ _ (by show w.heap.size+1≠w.heap.size;omega)).trans ((Below.heap_setCell _ _ _ _ (by show w.heap.size+1≠w.heap.size;omega)).trans hm.res)
 · have h1:OutK kA (w.heap.size+2) w3 (.slice A3 p.arrays.length c3) p.arrays:=⟨own_up ha h2,fun _ _=>trivial⟩
   exact(h1.keep (zD.of_below hb4)).keep hK
 · rw[List.drop_zero]
   exact(OutT.start hf Zr).keep (hK.mono (by omega)) fun j hj hjo=>hK.2 j hj (by have:=(qJ hf j hjo).2;omega)
 · exact hK.1
set_option maxHeartbeats 8000000 in
theorem drename_any (B:Nat) (p:Pr) (v0 v1:Value) (w:World) (ht:TreeTab B w) (hB:B≤w.heap.size) (ha:SlA B w v0 p.arrays) (hf:SlF B w v1 p.funcs) (hsm:Small p):
 Calls Tryz.prog 8 #[.agg #[v0,v1]] w (RnPost p w):=by
 obtain⟨A0,c0,rfl,hn0⟩:=ha.form;obtain⟨A1,c1,rfl,hn1⟩:=hf.form;obtain⟨⟨R0,R1,R2⟩,hR⟩:∃ R,uJ p=R:=⟨_,rfl⟩
 have hBA:Below w.heap.size w ((w.alloc (pgO A0 p.arrays.length c0 A1 p.funcs.length c1)).alloc pgBox):=(Zb.alloc Zr _).alloc (by rw[zA];omega) _;have HMA:=hid (show PMid w (pgO A0 p.arrays.length c0 A1 p.funcs.length c1) ((w.alloc (pgO A0 p.arrays.length c0 A1 p.funcs.length c1)).alloc pgBox) from⟨hBA,zc (heap_alloc_new w _) _,by have:=heap_alloc_new (w.alloc (pgO A0 p.arrays.length c0 A1 p.funcs.length c1)) pgBox;rw[zA]at this;exact this⟩);have hzA:((w.alloc (pgO A0 p.arrays.length c0 A1 p.funcs.length c1)).alloc pgBox).heap.size=w.heap.size+2:=by rw[zA,zA]
 have HT:=hid ht;have HA:=hid ha;have HF:=hid hf;have HSM:=hid hsm;have HR:=hid hR;clear ht ha hf hsm hR hBA;have hl1:=HSM.out.n1;have hl2:=HSM.out.n2;go_enter Tryz.func8,Tryz.ntmps8;go_upto_region 1 with(fail);generalize (w.alloc (pgO A0 p.arrays.length c0 A1 p.funcs.length c1)).alloc pgBox=WA at *;have hza:=Nat.le_of_eq hzA;have hzb:=Nat.le_of_eq hzA.symm;clear hzA;obtain⟨⟨a0,a1⟩,az⟩:=zE HMA.out.box;have hsA:w.heap.size<WA.heap.size:=by omega
 have HCK:=hid (check_any B p (R0,R1,R2) (.slice A0 p.arrays.length c0) (.slice A1 p.funcs.length c1) WA (HT.out.below (HMA.out.bel.mono hB)) (by omega) (HA.out.below (HMA.out.bel.mono hB) Zr) (HF.out.below (HMA.out.bel.mono hB) Zr) HSM.out.sz HSM.out.n1 HSM.out.n2 HR.out);by_cases h0:R0=0
 case neg=>
  have hne:(R0 != 0)=true:=by simpa using h0
  go_upto_region 2 with(go_at_call 19;(with_reducible refine(HCK.out).mono ?_);rintro e w1 ⟨rfl,hb1⟩
                        have HM1:=hid (HMA.out.below (hb1.alloc (by have:=hb1.size;omega) (.cells #[.int .i64 (R1:Int),.int .i64 (W64 R2)] 38)));have hr1:w.heap.size+1<(w1.alloc (.cells #[.int .i64 (R1:Int),.int .i64 (W64 R2)] 38)).heap.size:=by have:=hb1.size;rw[zA];omega
                        clear hb1)
  generalize w1.alloc (.cells #[.int .i64 (R1:Int),.int .i64 (W64 R2)] 38)=W1 at *;obtain⟨⟨r0,r1⟩,rz⟩:=zE HM1.out.res;go_wp2_with (fail);obtain⟨f0,f1⟩:=qg HM1.out.res (.slice none 0 0) (.slice none 0 0);refine bodyPost_ret (v:=.tuple #[.agg #[.slice none 0 0,.slice none 0 0],.int .i64 1]) (by simp[results,Tryz.results8,go_sem,f0,f1]) rfl ?_;have hrr:uA p=(pr0,1):=by unfold uA;rw[HR.out,if_neg h0]
  refine⟨_,_,by rw[hrr],HM1.out.bel.trans (zm Zb (by omega) _ _),?_⟩;rw[hrr];exact⟨_,_,rfl,ue _ _,⟨none,0,rfl,Nat.zero_le _,fun h=>absurd h (by simp[pr0])⟩⟩
 case pos=>
  subst h0;obtain⟨os,hos,hsrc⟩:=src_fus HF.out;have hosl:os.length=p.funcs.length:=by rw[←hos,List.length_map]
  have HOS:=hid hos;have HOSL:=hid hosl;have HSRC:=hid hsrc;have HSRA:=hid (src_ars HA.out);clear hos hosl hsrc
  go_upto_region 4 with(go_at_call 19;(with_reducible refine(HCK.out).mono ?_);rintro e w1 ⟨rfl,hb1⟩
                        have HM1:=hid (HMA.out.below (hb1.alloc (by have:=hb1.size;omega) (.cells #[.int .i64 (R1:Int),.int .i64 (W64 R2)] 38)));have hz1:WA.heap.size≤w1.heap.size:=hb1.size;have hz1':(w1.alloc (.cells #[.int .i64 (R1:Int),.int .i64 (W64 R2)] 38)).heap.size=w1.heap.size+1:=zA _ _
                        clear hb1)
  generalize w1.alloc (.cells #[.int .i64 (R1:Int),.int .i64 (W64 R2)] 38)=W1 at *;have hz1a:=Nat.le_of_eq hz1';have hz1b:=Nat.le_of_eq hz1'.symm;clear hz1' a0 a1 az;obtain⟨⟨a0,a1⟩,az⟩:=zE HM1.out.box;have hs1:w.heap.size<W1.heap.size:=by omega
  have HSA1:=hid (show Src kA B W1.drew A0 p.arrays.length p.arrays from HSRA.out.below (HM1.out.bel.drew.mono hB));have HSF1:=hid (show Src kF B W1 A1 p.funcs.length os from HSRC.out.below (HM1.out.bel.mono hB))
  go_cut [3] (fun v3 wx=>v3=.int .i64 0∧∃ A3 c3 A4 c4 M L,Cl8 w p os A3 c3 A4 c4 M L [] 0 wx)
  case first=>
   go_region_law (first
    | (go_simp;go_at_call 20;(with_reducible refine(clone_ars A0 p.arrays.length c0 p.arrays W1.drew HSA1.out (by omega)).mono ?_)
       rintro e w3 ⟨vA,rfl,hown,hb3⟩;obtain⟨A3,c3,rfl⟩:=zj hown;have hz3:W1.heap.size≤w3.heap.size:=hb3.size;have HO3:=hid hown;have HB3:=hid (show Below W1.heap.size W1 w3 from⟨hb3.os,hb3.tape,hb3.output,hb3.size,hb3.block⟩);have HM3:=hid (HM1.out.below HB3.out);obtain⟨⟨b0,b1⟩,bz⟩:=zE HM3.out.box;have hs3:w.heap.size<w3.heap.size:=by omega
       have HSF3:=hid (show Src kF B w3 A1 p.funcs.length os from HSF1.out.below (HB3.out.mono (by omega)))
       clear hown hb3)
    | (go_simp;go_at_call 21;(with_reducible refine(clone_fus A1 p.funcs.length c1 os w3 HSF3.out (by omega)).mono ?_)
       rintro e w4 ⟨vF,rfl,hown,hb4⟩;obtain⟨A4,c4,hv4⟩:=zj hown;rw[HOSL.out]at hv4;subst hv4;have hz4:w3.heap.size≤w4.heap.size:=hb4.size;have HO4:=hid hown;have HB4:=hid hb4;have HM4:=hid (HM3.out.below hb4);obtain⟨⟨d0,d1⟩,dz⟩:=zE HM4.out.box;have hs4:w.heap.size<w4.heap.size:=by omega
       clear hown hb4))
   all_goals
    go_wp2_with (fail)
    go_meet
    exact⟨rfl,A3,c3,A4,c4,w3.heap.size,w4.heap.size,Cl8.start HM4.out (by omega) hz3 HO3.out HB4.out HO4.out rfl (by exact Lib.heap_setCell_same (Lib.heap_setCell_same HM4.out.box _) _)⟩
  case rest=>
   obtain⟨rfl,A3,c3,A4,c4,M,L,hcl⟩:=hcut;have HCL:=hid hcl;obtain⟨⟨b0,b1⟩,bz⟩:=zE hcl.mid.box;have hsc:w.heap.size<wc.heap.size:=zB hcl.mid.box;clear hcl;go_upto_region 6 with(fail)
   go_loopw [27] (fun iv wr=>∃ (i:Nat) (ps:List FuV),i≤p.funcs.length∧iv=.int .i64 i∧ps.map (·.f)=(p.funcs.take i).map dvF∧Cl8 w p os A3 c3 A4 c4 M L ps i wr) (fun iv _=>p.funcs.length-(intOf iv).toNat)
   case atStart=>exact⟨0,[],Nat.zero_le _,rfl,rfl,HCL.out⟩
   case round=>
    obtain⟨i,ps,hi,rfl,hps,hC⟩:=hrel;have hpl:ps.length=i:=by have:=congrArg List.length hps;rw[List.length_map,List.length_map,List.length_take]at this;omega
    have HPL:=hid hpl;have HPS:=hid hps;have HC:=hid hC;have hsr:w.heap.size<wr.heap.size:=zB hC.mid.box;have hMw:=hC.hM;have hLM:=hC.hL;have hLr:=hC.sz;have hT:=hC.fun_;obtain⟨⟨d0,d1⟩,dz⟩:=zE hC.mid.box;clear hpl hps hC;by_cases hlt:i<p.funcs.length
    · obtain⟨f,he⟩:∃ e,p.funcs[i]? =some e:=⟨_,List.getElem?_eq_getElem hlt⟩
      obtain⟨v2,v3,hva⟩:∃ v2 v3,os[i]? =some ⟨f,v2,v3⟩:=by
       have h1:(os.map (·.f))[i]? =some f:=by rw[HOS.out];exact he
       rw[List.getElem?_map]at h1;cases h2:os[i]? with
       | none=>rw[h2]at h1;cases h1
       | some x=>
         obtain⟨xs,x3,x4⟩:=x;rw[h2]at h1;have h3:=Option.some.inj h1;dsimp only at h3;subst h3;exact⟨x3,x4,rfl⟩
      rw[jv hva]at hT;have hin:=HSRC.out.inn _ (List.mem_of_getElem? hva);obtain⟨in2,in3⟩:SlP B w v2 f.params∧SlS B w v3 f.body:=hin;obtain⟨A5,c5,rfl,_⟩:=in2.form;obtain⟨A6,c6,rfl,_⟩:=in3.form;obtain⟨g,c',hv,hBg,hg,hgL⟩:=hT.cons (by simp);simp only[Value.slice.injEq]at hv;obtain⟨rfl,hlen,rfl⟩:=hv;have HLEN:=hid hlen;obtain⟨⟨q0,q1,q2,q3⟩,qz⟩:=kf_cells hT hlen HPL.out
      have HOKF:=hid (show k8 f=true from by
       have h1:=HSM.out.ok;unfold prOK at h1;rw[Bool.and_eq_true]at h1
       exact List.all_eq_true.1 h1.2 f (List.mem_of_getElem? he))
      have HCNF:=hid (HSM.out.cn f (List.mem_of_getElem? he));have HE:=hid he;have HVA:=hid hva;have HTT:=hid hT;have hbA:Below wr.heap.size wr (wr.alloc (.cells #[.string f.name,.int .i64 f.type,.slice A5 f.params.length c5,.slice A6 f.body.length c6] 45)):=Zb.alloc Zr _;have hxA:(wr.alloc (.cells #[.string f.name,.int .i64 f.type,.slice A5 f.params.length c5,.slice A6 f.body.length c6] 45)).heap[wr.heap.size]? =some (.cells #[.string f.name,.int .i64 f.type,.slice A5 f.params.length c5,.slice A6 f.body.length c6] 45):=heap_alloc_new wr _;have hzW:(wr.alloc (.cells #[.string f.name,.int .i64 f.type,.slice A5 f.params.length c5,.slice A6 f.body.length c6] 45)).heap.size=wr.heap.size+1:=zA _ _;have hbel:Below B w wr:=HC.out.mid.bel.mono hB;have HI2:=hid (in2.below (hbel.trans (hbA.mono (by omega))).drew Zr);have HI3:=hid (in3.below (hbel.trans (hbA.mono (by omega))).drew Zr);have HTB:=hid (HT.out.below (hbel.trans (hbA.mono (by omega))).drew);clear he hva hT hlen in2 in3 hbel;go_upto_region 8 with(fail);generalize wr.alloc (.cells #[.string f.name,.int .i64 f.type,.slice A5 f.params.length c5,.slice A6 f.body.length c6] 45)=W8 at *;have HC8:=hid (HC.out.below hbA);have HT8:=hid (HTT.out.below hbA);have hza8:=Nat.le_of_eq hzW;have hzb8:=Nat.le_of_eq hzW.symm;obtain⟨⟨x0,x1,x2,x3⟩,xz⟩:=zI hxA;clear d0 d1 dz q0 q1 q2 q3 qz hbA hxA hzW;obtain⟨⟨d0,d1⟩,dz⟩:=zE HC8.out.mid.box;have hs8:w.heap.size<W8.heap.size:=by omega
      have hs8b:wr.heap.size<W8.heap.size:=by omega
      have hg8:g<W8.heap.size:=by omega
      have hBd:B≤W8.drew.heap.size:=Nat.le_trans hB HC8.out.mid.bel.drew.size
      go_region_law (first
       | (go_simp;go_at_call 22;(with_reducible refine(dfun_any B f (.slice A5 f.params.length c5) (.slice A6 f.body.length c6) W8.drew HOKF.out HTB.out hBd HI2.out HI3.out HCNF.out).mono ?_)
          rintro e w9 ⟨v9,rfl,hF9,hb9⟩;obtain⟨u2,u3,rfl,hf2,hf3⟩:=hF9;obtain⟨D2,e2,rfl⟩:=FrPs.form hf2;obtain⟨D3,e3,rfl,_⟩:=zT.form hf3;have hb9':Below W8.heap.size W8 w9:=⟨hb9.os,hb9.tape,hb9.output,hb9.size,hb9.block⟩
          have hz9:W8.heap.size≤w9.heap.size:=hb9'.size;have HC9:=hid (HC8.out.below hb9');have HT9:=hid (HT8.out.below hb9');have HF2:=hid hf2;have HF3:=hid hf3;obtain⟨⟨y0,y1⟩,yz⟩:=zE HC9.out.mid.box;obtain⟨⟨p0,p1,p2,p3⟩,pz⟩:=kf_cells HT9.out HLEN.out HPL.out;have hs9:w.heap.size<w9.heap.size:=by omega
          have hg9:g<w9.heap.size:=by omega
          clear hb9 hb9' hf2 hf3))
      all_goals
       have HT10:=hid (kf_set (f':=dvF f) HT9.out HLEN.out HPL.out (.slice D2 (dvF f).params.length e2) (.slice D3 (dvF f).body.length e3));have HK10:=hid (set4o_keep w9 g (i * 4) (.string (dvF f).name) (.int .i64 (dvF f).type) (.slice D2 (dvF f).params.length e2) (.slice D3 (dvF f).body.length e3) (L:=W8.heap.size) (by omega));have HB10:=hid (set4o_below w9 g (i * 4) (.string (dvF f).name) (.int .i64 (dvF f).type) (.slice D2 (dvF f).params.length e2) (.slice D3 (dvF f).body.length e3) (B:=M) hBg);have HQ10:=hid (fun q (hq:q≠g)=>set4o_block w9 g (i * 4) (.string (dvF f).name) (.int .i64 (dvF f).type) (.slice D2 (dvF f).params.length e2) (.slice D3 (dvF f).body.length e3) q hq);have hz10:=set4o_size w9 g (i * 4) (.string (dvF f).name) (.int .i64 (dvF f).type) (.slice D2 (dvF f).params.length e2) (.slice D3 (dvF f).body.length e3);go_wp2_with (fail);go_roundw
       case rel=>
        refine⟨i+1,ps++[⟨dvF f,.slice D2 (dvF f).params.length e2,.slice D3 (dvF f).body.length e3⟩],by omega,by go_num,?_,?_⟩
        · rw[List.map_append,HPS.out,kp HE.out,List.map_append]
          rfl
        · exact⟨HC9.out.mid.keep HB10.out hMw,⟨qR HC9.out.arr.1 fun j hj=>HQ10.out j (by have:=HC9.out.ab j hj;omega),fun _ _=>trivial⟩,HC9.out.ab,HT10.out.push (M:=W8.heap.size) (frk_fu (HF2.out.keep HK10.out Zr) (zT.keep HF3.out HK10.out Zr)) (by omega),hMw,hLM,Nat.le_trans (Nat.le_trans hLr (by omega)) (Nat.le_of_eq hz10.symm)⟩
       case measure=>simp[intOf];omega
    · have hil:i=p.funcs.length:=by omega
      subst hil;have hrr:uA p=(renPr p,0):=by unfold uA;rw[HR.out,if_pos rfl]
      have HRR:=hid hrr;have hres:=HC.out.mid.res;obtain⟨⟨r0,r1⟩,rz⟩:=zE hres;have hr1:=zB hres;obtain⟨s0,s1⟩:=qg hres (.slice A3 p.arrays.length c3) (.slice A4 p.funcs.length c4)
      have HOUT:=hid (show SlA wr.heap.size (mask (yd (w.heap.size+2)) wr) (.slice A3 p.arrays.length c3) p.arrays∧SlF wr.heap.size (mask (yd (w.heap.size+2)) wr) (.slice A4 p.funcs.length c4) (p.funcs.map renF) from by
       rw[List.drop_of_length_le (by rw[HOSL.out];exact Nat.le_refl _)]at hT;refine⟨OutK.arrays HC.out.arr (by omega),?_⟩;have h1:=OutK.funcs (hT.fin hLM) (by rw[HPL.out];omega);rw[HPS.out,List.take_length,dvPr_ren (by rw[HR.out])]at h1;refine SlF.imp (fun g o u hc=>?_) h1;obtain⟨hq,hc⟩:=zn hc
       exact zy (qG.2 (by have:=qG.1 hq;omega)) hc)
      clear hT;go_wp2_with (fail);refine bodyPost_ret (v:=.tuple #[.agg #[.slice A3 p.arrays.length c3,.slice A4 p.funcs.length c4],.int .i64 0]) (by simp[results,Tryz.results8,go_sem,s0,s1]) rfl ?_;have hK:zD (w.heap.size+2) wr ((wr.setCell ⟨w.heap.size+1,0,none⟩ (.slice A3 p.arrays.length c3)).setCell ⟨w.heap.size+1,1,none⟩ (.slice A4 p.funcs.length c4)):=(zD.set (by omega) _ _).trans (zD.set (by omega) _ _);refine⟨_,_,by rw[HRR.out],zm HC.out.mid.bel (by omega) _ _,?_⟩;rw[HRR.out];exact⟨_,_,rfl,SlA.imp (hK.cells (by omega)) HOUT.out.1,SlF.imp (hK.cells (by omega)) HOUT.out.2⟩
end Go.Proofs.YtfghofifjnbicaaGreatDoor
namespace Go.Proofs.YtfghofifjnbicaaGreatDoor
open Lib (hid)
open Go.RowKit
def frF (l:List Fu):Prop:=∀ (i:Nat) f,l[i]? =some f→qN l f.name=some i
theorem dupF_iff:∀ {l:List Fu},vu l=false↔frF l
 | []=>⟨fun _ i f h=>by simp at h,fun _=>rfl⟩
 | x :: r=>by
   rw[vu,Bool.or_eq_false_iff,dupF_iff (l:=r)];constructor
   · rintro⟨h1,h2⟩ i f hi
     cases i with
     | zero=>simp at hi;subst hi;rw[qN,if_pos rfl]
     | succ i=>
       have hi':r[i]? =some f:=by simpa using hi
       have h3:=h2 i f hi'
       have hne:¬ x.name=f.name:=fun e=>by
        rw[js,List.any_eq_false]at h1;exact h1 f (List.mem_of_getElem? hi') (by simp[e])
       rw[qN,if_neg hne,h3];rfl
   · intro h
     refine⟨?_,fun i f hi=>?_⟩
     · rw[js,List.any_eq_false]
       intro f hf;obtain⟨i,hi⟩:=List.getElem?_of_mem hf;have:=h (i+1) f (by simpa using hi);rw[qN]at this;split at this
       · cases this
       · rename_i hne
         simp;exact fun e=>hne e.symm
     · have:=h (i+1) f (by simpa using hi)
       rw[qN]at this;split at this
       · cases this
       · cases hr:qN r f.name with
         | none=>rw[hr]at this;cases this
         | some j=>
           rw[hr]at this;have:j=i:=by simpa using this
           rw[this]
def frA (p:Pr) (l:List Ar):Prop:=∀ (i:Nat) f,l[i]? =some f→qb l f.name=some i∧qN p.funcs f.name=none
theorem zAi (p:Pr):∀ {l:List Ar},yy p l=false↔frA p l
 | []=>⟨fun _ i f h=>by simp at h,fun _=>rfl⟩
 | x :: r=>by
   rw[yy,Bool.or_eq_false_iff,Bool.or_eq_false_iff,zAi p (l:=r)];constructor
   · rintro⟨⟨h1,h0⟩,h2⟩ i f hi
     cases i with
     | zero=>simp at hi;subst hi;exact⟨by rw[qb,if_pos rfl],by simpa using h0⟩
     | succ i=>
       have hi':r[i]? =some f:=by simpa using hi
       obtain⟨h3,h4⟩:=h2 i f hi'
       have hne:¬ x.name=f.name:=fun e=>by
        rw[ks,List.any_eq_false]at h1;exact h1 f (List.mem_of_getElem? hi') (by simp[e])
       exact⟨by rw[qb,if_neg hne,h3];rfl,h4⟩
   · intro h
     refine⟨⟨?_,?_⟩,fun i f hi=>⟨?_,(h (i+1) f (by simpa using hi)).2⟩⟩
     · rw[ks,List.any_eq_false]
       intro f hf;obtain⟨i,hi⟩:=List.getElem?_of_mem hf;have:=(h (i+1) f (by simpa using hi)).1;rw[qb]at this;split at this
       · cases this
       · rename_i hne
         simp;exact fun e=>hne e.symm
     · have:=(h 0 x rfl).2
       simp[this]
     · have:=(h (i+1) f (by simpa using hi)).1
       rw[qb]at this;split at this
       · cases this
       · cases hr:qb r f.name with
         | none=>rw[hr]at this;cases this
         | some j=>
           rw[hr]at this;have:j=i:=by simpa using this
           rw[this]
set_option maxHeartbeats 4000000 in
theorem zAj (B:Nat) (p:Pr) (r:Bool) (v0 v1:Value) (w:World) (hB:B≤w.heap.size) (ha:SlA B w v0 p.arrays) (hf:SlF B w v1 p.funcs) (hr:(!(yy p p.arrays || vu p.funcs) && xH p)=r):
 Calls Tryz.prog 29 #[.agg #[v0,v1]] w fun e w'=>e=.returned (.bool r)∧Below w.heap.size w w':=by
 obtain⟨A0,c0,rfl,_⟩:=ha.form;obtain⟨A1,c1,rfl,hn⟩:=hf.form;have HA:=hid ha;have HF:=hid hf;have HR:=hid hr;clear ha hf hr;go_enter Tryz.func29,Tryz.ntmps29;go_wp2_with (fail)
 go_loopw [3] (fun iv wr=>∃ i:Nat,i≤p.arrays.length∧iv=.int .i64 i∧(∀ (k:Nat) f,k<i→p.arrays[k]? =some f→qb p.arrays f.name=some k∧qN p.funcs f.name=none)∧wr.heap[w.heap.size]? =some (pgO A0 p.arrays.length c0 A1 p.funcs.length c1)∧Below w.heap.size w wr) (fun iv _=>p.arrays.length-(intOf iv).toNat)
 case atStart=>exact⟨0,Nat.zero_le _,rfl,fun k f hk=>absurd hk (by omega),heap_alloc_new _ _,Zb.alloc Zr _⟩
 case round=>
  obtain⟨i,hi,rfl,hall,hx,hbw⟩:=hrel;obtain⟨⟨r0,r1⟩,rz⟩:=zE hx;have hs0:w.heap.size<wr.heap.size:=zB hx;have HALL:=hid hall;have HX:=hid hx;have HBW:=hid hbw;by_cases hlt:i<p.arrays.length
  · obtain⟨y,hy⟩:∃ e,p.arrays[i]? =some e:=⟨_,List.getElem?_eq_getElem hlt⟩
    obtain⟨g,o,rfl,hg,q0,q1⟩:=(HA.out.below (hbw.mono hB) Zr).cells hy;have hgs:g<wr.heap.size:=by omega
    have HY:=hid hy;have hbd:Below wr.heap.size wr wr.drew:=Zb.drew;have HAD:=hid (HA.out.below ((hbw.trans (hbd.mono (by omega))).mono hB) Zr);have HFD:=hid (HF.out.below ((hbw.trans (hbd.mono (by omega))).mono hB) Zr);obtain⟨za,hza⟩:∃ z,jY (qb p.arrays y.name)=z:=⟨_,rfl⟩
    obtain⟨zf,hzf⟩:∃ z,jY (qN p.funcs y.name)=z:=⟨_,rfl⟩
    have HZA:=hid hza;have HZF:=hid hzf;clear hy hx hbw hall hza hzf hbd;have hcase:za≠(i:Int)∨za=(i:Int)∧0≤zf∨za=(i:Int)∧¬ 0≤zf:=by omega
    rcases hcase with h1 | ⟨h1,h2⟩ | ⟨h1,h2⟩
    case inl=>
     have hdt:yy p p.arrays=true:=by
      cases hd:yy p p.arrays with
      | true=>rfl
      | false=>
        have h3:=((zAi p).1 hd i y HY.out).1;have h4:=HZA.out;rw[h3]at h4;exact absurd h4.symm h1
     have HDT:=hid hdt;clear hdt;have n1:(za != (i:Int))=true:=by simp[h1]
     go_wp2_with (fail)
     first
     | (go_region_law (first
         | (go_simp;go_at_call 63;(refine(kl B p y.name _ HZA.out _ _ wr.drew (by show B≤wr.heap.size;omega) HAD.out HFD.out).mono ?_);rintro e w5 ⟨rfl,hb5⟩
            have HW5:=hid (HBW.out.trans (((Below.refl wr.heap.size wr).drew.trans hb5).mono (by omega)))
            clear hb5)))
     | fail
     all_goals go_wp2_with (fail)
     all_goals go_ret
     all_goals exact⟨zC (by rw[←HR.out,HDT.out];simp),HW5.out⟩
    case inr.inl=>
     subst h1;go_wp2_with (fail)
     first
     | (go_region_held3 (fun w'=>w'.cell? ⟨w.heap.size,0,none⟩=some (.slice (some ⟨g,o,none⟩) p.arrays.length c0)∧w'.cell? ⟨w.heap.size,1,none⟩=some (.slice A1 p.funcs.length c1)∧w'.cell? ⟨g,o+i * 2,none⟩=some (.string y.name))
         (first
           | (go_split_ands;refine⟨?_,?_,?_⟩ <;> (first | (rw[hq6];assumption) | (rw[hg6];assumption) | (rw[hq5];assumption) | (rw[hg5];assumption)))
           | go_keep)
         (first
           | (go_at_call 63
              (refine(kl B p y.name _ HZA.out _ _ wr.drew (by show B≤wr.heap.size;omega) HAD.out HFD.out).mono ?_)
              rintro e w5 ⟨rfl,hb5⟩;have hb5':Below wr.heap.size wr w5:=Zb.drew.trans hb5;have hq5:∀ x,w5.cell? ⟨w.heap.size,x,none⟩=wr.cell? ⟨w.heap.size,x,none⟩:=fun x=>hb5'.cell (p:=⟨w.heap.size,x,none⟩) hs0
              have hg5:∀ x,w5.cell? ⟨g,x,none⟩=wr.cell? ⟨g,x,none⟩:=fun x=>hb5'.cell (p:=⟨g,x,none⟩) hgs
              have hz5:wr.heap.size≤w5.heap.size:=hb5'.size;have HB5:=hid hb5';have HA5:=hid (HAD.out.below (hb5.mono (show B≤wr.heap.size by omega)) Zr);have HF5:=hid (HFD.out.below (hb5.mono (show B≤wr.heap.size by omega)) Zr);have HW5:=hid (HBW.out.trans (hb5'.mono (by omega)))
              clear hb5 hb5')
           | (go_at_call 64
              (refine(jA B p y.name _ HZF.out _ _ w5 (by omega) HA5.out HF5.out).mono ?_)
              rintro e w6 ⟨rfl,hb6⟩;have hq6:∀ x,w6.cell? ⟨w.heap.size,x,none⟩=wr.cell? ⟨w.heap.size,x,none⟩:=fun x=>(hb6.cell (p:=⟨w.heap.size,x,none⟩) (by show w.heap.size<w5.heap.size;omega)).trans (hq5 x)
              have hg6:∀ x,w6.cell? ⟨g,x,none⟩=wr.cell? ⟨g,x,none⟩:=fun x=>(hb6.cell (p:=⟨g,x,none⟩) (by show g<w5.heap.size;omega)).trans (hg5 x)
              have HB6:=hid (HB5.out.trans (hb6.mono hz5));have HW6:=hid (HW5.out.trans (hb6.mono HW5.out.size))
              clear hb6)))
     | fail
     go_wp2_with (fail);go_ret
     have hdt:yy p p.arrays=true:=by
      cases hd:yy p p.arrays with
      | true=>rfl
      | false=>
        have h3:=((zAi p).1 hd i y HY.out).2;have h4:=HZF.out;rw[h3]at h4;simp only[jY]at h4;omega
     exact⟨zC (by rw[←HR.out,hdt];simp),HW6.out⟩
    case inr.inr=>
     subst h1;have n2:decide (0≤zf)=false:=by simpa using h2
     go_wp2_with (fail)
     first
     | (go_region_held3 (fun w'=>w'.cell? ⟨w.heap.size,0,none⟩=some (.slice (some ⟨g,o,none⟩) p.arrays.length c0)∧w'.cell? ⟨w.heap.size,1,none⟩=some (.slice A1 p.funcs.length c1)∧w'.cell? ⟨g,o+i * 2,none⟩=some (.string y.name))
         (first
           | (go_split_ands;refine⟨?_,?_,?_⟩ <;> (first | (rw[hq6];assumption) | (rw[hg6];assumption) | (rw[hq5];assumption) | (rw[hg5];assumption)))
           | go_keep)
         (first
           | (go_at_call 63
              (refine(kl B p y.name _ HZA.out _ _ wr.drew (by show B≤wr.heap.size;omega) HAD.out HFD.out).mono ?_)
              rintro e w5 ⟨rfl,hb5⟩;have hb5':Below wr.heap.size wr w5:=Zb.drew.trans hb5;have hq5:∀ x,w5.cell? ⟨w.heap.size,x,none⟩=wr.cell? ⟨w.heap.size,x,none⟩:=fun x=>hb5'.cell (p:=⟨w.heap.size,x,none⟩) hs0
              have hg5:∀ x,w5.cell? ⟨g,x,none⟩=wr.cell? ⟨g,x,none⟩:=fun x=>hb5'.cell (p:=⟨g,x,none⟩) hgs
              have hz5:wr.heap.size≤w5.heap.size:=hb5'.size;have HB5:=hid hb5';have HA5:=hid (HAD.out.below (hb5.mono (show B≤wr.heap.size by omega)) Zr);have HF5:=hid (HFD.out.below (hb5.mono (show B≤wr.heap.size by omega)) Zr);have HW5:=hid (HBW.out.trans (hb5'.mono (by omega)))
              clear hb5 hb5')
           | (go_at_call 64
              (refine(jA B p y.name _ HZF.out _ _ w5 (by omega) HA5.out HF5.out).mono ?_)
              rintro e w6 ⟨rfl,hb6⟩;have hq6:∀ x,w6.cell? ⟨w.heap.size,x,none⟩=wr.cell? ⟨w.heap.size,x,none⟩:=fun x=>(hb6.cell (p:=⟨w.heap.size,x,none⟩) (by show w.heap.size<w5.heap.size;omega)).trans (hq5 x)
              have hg6:∀ x,w6.cell? ⟨g,x,none⟩=wr.cell? ⟨g,x,none⟩:=fun x=>(hb6.cell (p:=⟨g,x,none⟩) (by show g<w5.heap.size;omega)).trans (hg5 x)
              have HB6:=hid (HB5.out.trans (hb6.mono hz5));have HW6:=hid (HW5.out.trans (hb6.mono HW5.out.size))
              clear hb6)))
     | fail
     go_wp2_with (fail);go_roundw
     case rel=>
      refine⟨i+1,by omega,by go_num,fun k f hk hkf=>?_,(HB6.out.block w.heap.size hs0).trans HX.out,HW6.out⟩;by_cases hki:k=i
      · subst hki
        rw[HY.out]at hkf;injection hkf with hkf;subst hkf;have h4:=HZA.out;have h5:=HZF.out;refine⟨?_,?_⟩
        · cases h6:qb p.arrays y.name with
          | none=>rw[h6]at h4;simp[jY]at h4
          | some q=>rw[h6]at h4;simp only[jY]at h4;exact congrArg some (by omega)
        · cases h6:qN p.funcs y.name with
          | none=>rfl
          | some q=>rw[h6]at h5;simp only[jY]at h5;omega
      · exact HALL.out k f (by omega) hkf
     case measure=>simp[intOf];omega
  · have hda:yy p p.arrays=false:=(zAi p).2 fun k f hkf=>hall k f (by have:=(List.getElem?_eq_some_iff.1 hkf).1;omega) hkf
    have HDA:=hid hda;clear hall hda hx hbw;go_wp2_with (fail)
    go_loopw [4] (fun iv wr2=>∃ i:Nat,i≤p.funcs.length∧iv=.int .i64 i∧(∀ (k:Nat) f,k<i→p.funcs[k]? =some f→qN p.funcs f.name=some k)∧wr2.heap[w.heap.size]? =some (pgO A0 p.arrays.length c0 A1 p.funcs.length c1)∧Below w.heap.size w wr2) (fun iv _=>p.funcs.length-(intOf iv).toNat)
    case atStart=>exact⟨0,Nat.zero_le _,rfl,fun k f hk=>absurd hk (by omega),HX.out,HBW.out⟩
    case round=>
     obtain⟨wr2,rfl⟩:∃ x,x=wr:=⟨_,rfl⟩
     obtain⟨i,hi,rfl,hall,hx,hbw⟩:=hrel;obtain⟨⟨r0,r1⟩,rz⟩:=zE hx;have hs0:w.heap.size<wr2.heap.size:=zB hx;have HALL2:=hid hall;have HX2:=hid hx;have HBW2:=hid hbw;by_cases hlt2:i<p.funcs.length
     · obtain⟨y,hy⟩:∃ e,p.funcs[i]? =some e:=⟨_,List.getElem?_eq_getElem hlt2⟩
       obtain⟨g,o,w2,w3,rfl,hg,q0,q1,q2,q3,q4,q5⟩:=(HF.out.below (hbw.mono hB) Zr).cells hy;have hgs:g<wr2.heap.size:=by omega
       have HY:=hid hy;have hbd:Below wr2.heap.size wr2 wr2.drew:=Zb.drew;have HAD:=hid (HA.out.below ((hbw.trans (hbd.mono (by omega))).mono hB) Zr);have HFD:=hid (HF.out.below ((hbw.trans (hbd.mono (by omega))).mono hB) Zr);obtain⟨zf,hzf⟩:∃ z,jY (qN p.funcs y.name)=z:=⟨_,rfl⟩
       have HZF:=hid hzf;clear hzf hy hx hbw hall hbd q1 q2 q3 q4 q5;have hcase:zf≠(i:Int)∨zf=(i:Int):=by omega
       rcases hcase with h1 | h1
       all_goals
        first
        | (subst h1
           have HC:=hid (show qN p.funcs y.name=some i from by
            have h5:=HZF.out;cases h6:qN p.funcs y.name with
            | none=>rw[h6]at h5;simp only[jY]at h5;omega
            | some q=>rw[h6]at h5;simp only[jY]at h5;exact congrArg some (by omega)))
        | (have HC:=hid (show vu p.funcs=true from by
            cases hd:vu p.funcs with
            | true=>rfl
            | false=>
              have h3:=dupF_iff.1 hd i y HY.out;have h4:=HZF.out;rw[h3]at h4
              exact absurd h4.symm h1)
           have n1:(zf != (i:Int))=true:=by simp[h1])
        go_wp2_with (fail)
        first
        | (go_region_held3 (fun w'=>w'.cell? ⟨w.heap.size,0,none⟩=some (.slice A0 p.arrays.length c0)∧w'.cell? ⟨w.heap.size,1,none⟩=some (.slice (some ⟨g,o,none⟩) p.funcs.length c1)∧w'.cell? ⟨g,o+i * 4,none⟩=some (.string y.name))
            (first
              | (go_split_ands;refine⟨?_,?_,?_⟩ <;> (first | (rw[hq5];assumption) | (rw[hg5];assumption)))
              | go_keep)
            (first
              | (go_at_call 64
                 (refine(jA B p y.name _ HZF.out _ _ wr2.drew (by show B≤wr2.heap.size;omega) HAD.out HFD.out).mono ?_)
                 rintro e w5 ⟨rfl,hb5⟩;have hb5':Below wr2.heap.size wr2 w5:=Zb.drew.trans hb5;have hq5:∀ x,w5.cell? ⟨w.heap.size,x,none⟩=wr2.cell? ⟨w.heap.size,x,none⟩:=fun x=>hb5'.cell (p:=⟨w.heap.size,x,none⟩) hs0
                 have hg5:∀ x,w5.cell? ⟨g,x,none⟩=wr2.cell? ⟨g,x,none⟩:=fun x=>hb5'.cell (p:=⟨g,x,none⟩) hgs
                 have HB5:=hid hb5';have HW5:=hid (HBW2.out.trans (hb5'.mono (by omega)))
                 clear hb5 hb5')))
        | fail
        all_goals go_wp2_with (fail)
        all_goals first
         | (go_ret
            exact⟨zC (by rw[←HR.out,HC.out];simp),HW5.out⟩)
         | (go_roundw
            case rel=>
             refine⟨i+1,by omega,by go_num,fun k f hk hkf=>?_,(HB5.out.block w.heap.size hs0).trans HX2.out,HW5.out⟩;by_cases hki:k=i
             · subst hki
               rw[HY.out]at hkf;injection hkf with hkf;subst hkf;exact HC.out
             · exact HALL2.out k f (by omega) hkf
            case measure=>simp[intOf];omega)
     · have hdf:vu p.funcs=false:=dupF_iff.2 fun k f hkf=>hall k f (by have:=(List.getElem?_eq_some_iff.1 hkf).1;omega) hkf
       have hw2:B≤wr2.heap.size:=Nat.le_trans hB hbw.size;have HR2:=hid (show xH p=r by rw[←HR.out,HDA.out,hdf];simp);have HA2:=hid (HA.out.below (hbw.mono hB) Zr);have HF2:=hid (HF.out.below (hbw.mono hB) Zr);clear hall hx hbw hdf;cases hk:qN p.funcs ⟨#[109,97,105,110]⟩ with
       | none=>
         have HK:=hid (show jY (qN p.funcs ⟨#[109,97,105,110]⟩)= -1 by rw[hk];rfl);have HM:=hid (show xH p=false by unfold xH xK;rw[hk];rfl);clear hk;go_wp2_with (go_at_call 64;(with_reducible refine(jA B p _ _ HK.out _ _ _ (by first | exact hw2 | (show B≤_;omega)) HA2.out HF2.out).mono ?_);rintro e w1 ⟨rfl,hb⟩);go_ret;exact⟨zC (by rw[←HR2.out,HM.out]),HBW2.out.trans (hb.mono HBW2.out.size)⟩
       | some k=>
         obtain⟨f,hkf,_,_⟩:=xO hk;have HK:=hid (show jY (qN p.funcs ⟨#[109,97,105,110]⟩)=(k:Int) by rw[hk];rfl);have HM:=hid (show xH p=(decide (f.type=1) && decide (f.params.length=0)) by unfold xH xK;rw[hk,Option.bind_some,hkf]);have HKF:=hid hkf;have hkl:k<p.funcs.length:=(List.getElem?_eq_some_iff.1 hkf).1;clear hk hkf;have hcase:f.type=1∧f.params.length=0∨f.type=1∧f.params.length≠0∨f.type≠1:=by omega
         rcases hcase with⟨h1,h2⟩ | ⟨h1,h2⟩ | h1
         all_goals
          have HC1:=hid h1
          try have HC2:=hid h2
          try clear h2
          clear h1
          go_wp2_with (go_at_call 64;(with_reducible refine(jA B p _ _ HK.out _ _ _ (by first | exact hw2 | (show B≤_;omega)) HA2.out HF2.out).mono ?_);rintro e w1 ⟨rfl,hb⟩
                       have hx0:=(hb.block w.heap.size hs0).trans HX2.out;obtain⟨⟨t0,t1⟩,tz⟩:=zE hx0;have hs1:w.heap.size<w1.heap.size:=zB hx0;obtain⟨g,o,v2,v3,rfl,hg,z0,z1,z2,z3,hp,hbo⟩:=(HF2.out.below (hb.mono hw2) Zr).cells HKF.out;obtain⟨A2,c2,rfl,_⟩:=hp.form;have hgs:g<w1.heap.size:=by have:=hb.size;omega
                       have HB1:=hid (HBW2.out.trans (hb.mono HBW2.out.size))
                       try rw[HC1.out]at z1
                       try rw[HC2.out]at z2
                       clear hb hx0 hp hbo)
          all_goals go_ret
          all_goals refine⟨zC ?_,HB1.out⟩
          all_goals
           rw[←HR2.out,HM.out];have e1:=HC1.out
           try have e2:=HC2.out
           simp_all
end Go.Proofs.YtfghofifjnbicaaGreatDoor
