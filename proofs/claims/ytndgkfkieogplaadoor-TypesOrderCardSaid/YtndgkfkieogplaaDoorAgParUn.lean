import Derived.Test.YtndgkfkieogplaaDoorAgParNum
import Derived.Test.YtndgkfkieogplaaDoorAgTokScan
import Derived.Laws.AppendOwn
set_option linter.unusedSimpArgs false
set_option linter.unusedVariables false
set_option maxRecDepth 100000
/- The document's parser: what may have a sign ahead. -/
namespace Go.Proofs.YtndgkfkieogplaaDoor
open Lib (hid)
open Go.RowKit
def CP (b:Nat) (V:Value) (all:List Tok) (n:Nat) (d:Int):Prop:=∀ (w:World) (x:PR Unit),jS b V all x w→zG (x.bind fun _ r=>pP n d r)→
 Calls Tryd.prog 91 #[.pointer (some ⟨b,0,none⟩),.int .i64 d] w (qM b V all w (x.bind fun _ r=>pP n d r) (kN w.heap.size))
theorem CP.call {b:Nat} {V:Value} {all:List Tok} {n:Nat} {d:Int} (h:CP b V all n d) {w:World} {x:PR Unit} (hs:jS b V all x w) (he:zG (x.bind fun _ r=>pP n d r)):
 Calls Tryd.prog 91 #[.pointer (some ⟨b,0,none⟩),.int .i64 d] w (qM b V all w (x.bind fun _ r=>pP n d r) (kN w.heap.size)):=h w x hs he
def CU (b:Nat) (V:Value) (all:List Tok) (n:Nat) (d:Int):Prop:=∀ (w:World) (x:PR Unit),jS b V all x w→zG (x.bind fun _ r=>pU n d r)→
 Calls Tryd.prog 86 #[.pointer (some ⟨b,0,none⟩),.int .i64 d] w (qM b V all w (x.bind fun _ r=>pU n d r) (kN w.heap.size))
theorem CU.call {b:Nat} {V:Value} {all:List Tok} {n:Nat} {d:Int} (h:CU b V all n d) {w:World} {x:PR Unit} (hs:jS b V all x w) (he:zG (x.bind fun _ r=>pU n d r)):
 Calls Tryd.prog 86 #[.pointer (some ⟨b,0,none⟩),.int .i64 d] w (qM b V all w (x.bind fun _ r=>pU n d r) (kN w.heap.size)):=h w x hs he
theorem isAt_over {x:PR Unit} (ho:zm x=true) (s:List UInt8):zS s x=false:=by
 cases x with
 | ok u r=>cases ho
 | _=>rfl
theorem un_over {α:Type} {b:Nat} {V:Value} {all:List Tok} {w W:World} {x:PR Unit} (ho:zm x=true) {f:List Tok→PR α} {F:World→α→Value→Prop} {v:Value} (hD:q7 b V all w x W) (a:α) (ha:F W a v):qM b V all w (x.bind fun _ r=>f r) F (.returned v) W:=by
 cases x with
 | ok u r=>cases ho
 | bad r=>exact⟨v,rfl,hD,a,ha⟩
 | deep r=>exact⟨v,rfl,hD,a,ha⟩
 | out=>exact absurd hD.st id
theorem prim_any {b:Nat} {V:Value} {all:List Tok} {n:Nat} {d:Int} (hE:∀ m,m≤n→CE b V all m 1 (d+1)) (hA:∀ m,m≤n→CA b V all m (d+1)) (hd:0≤d∧d≤1000):CP b V all (n+1) d:=by
 intro w x h hn
 cases ho:zm x with
 | true=>exact(vx h ho d).mono fun e w' ⟨he,hD⟩=>he ▸ un_over ho hD ex0 (ex0_fr _ _)
 | false=>
   cases x with
   | ok u r=>
     have hp:zY b V all r false false w:=h
     have hn':zG (pP (n+1) d r):=hn
     show Calls _ _ _ _ (qM b V all w (pP (n+1) d r) _)
     cases h1:z9 [40] r with
     | true=>exact prim_paren (hE n (Nat.le_refl _)) hp hd h1 hn'
     | false=>
       cases h2:z9 uo r with
       | true=>exact prim_true hp hd h1 h2
       | false=>
         cases h3:z9 vQ r with
         | true=>exact prim_false hp hd h1 h2 h3
         | false=>
           cases h4:z9 uZ r with
           | true=>exact prim_read hp hd h1 h2 h3 h4
           | false=>
             by_cases h5:yQ r=0
             · exact prim_num hp hd h1 h2 h3 h4 h5
             · by_cases h6:yQ r=1
               · cases h7:z9 [40] r.tail with
                 | true=>
                   cases n with
                   | zero=>
                     rw[pP,h1,h2,h3,h4,if_neg (by decide),if_neg (by decide),if_neg (by decide),if_neg (by decide),if_neg h5]at hn'
                     unfold zy at hn'
                     rw[if_pos h6]at hn'
                     simp only[PR.bind]at hn'
                     rw[pN]at hn'
                     exact absurd hn' id
                   | succ n=>exact prim_call (hA n (by omega)) hp hd h1 h2 h3 h4 h6 h7 hn'
                 | false=>
                   cases h8:z9 [91] r.tail with
                   | true=>
                     cases n with
                     | zero=>
                       rw[pP,h1,h2,h3,h4,if_neg (by decide),if_neg (by decide),if_neg (by decide),if_neg (by decide),if_neg h5]at hn'
                       unfold zy at hn'
                       rw[if_pos h6]at hn'
                       simp only[PR.bind]at hn'
                       rw[pN]at hn'
                       exact absurd hn' id
                     | succ n=>exact prim_index (hE n (by omega)) hp hd h1 h2 h3 h4 h6 h7 h8 hn'
                   | false=>exact prim_name hp hd h1 h2 h3 h4 h6 h7 h8 hn'
               · exact prim_bad hp hd h1 h2 h3 h4 h5 h6
   | bad r=>cases ho
   | deep r=>cases ho
   | out=>exact absurd h id
theorem zY.deepen {b:Nat} {V:Value} {all r:List Tok} {dp:Bool} {w:World} (h:zY b V all r false dp w):zY b V all r false true (w.setCell ⟨b,3,none⟩ (.bool true)):=
 ⟨h.1.set 3 (.bool true),h.2.1.off ((OffB.refl b _ w).setb h.lt 3 _),h.2.2⟩
theorem unary_none {b:Nat} {V:Value} {all:List Tok} {x:PR Unit} {w:World} {d:Int} (h:jS b V all x w) (hd:0≤d∧d≤1000) (ho:zm x=true) (hd2:d≤100):
 Calls Tryd.prog 86 #[.pointer (some ⟨b,0,none⟩),.int .i64 d] w fun e w'=>e=.returned ex0V∧q7 b V all w x w':=by
 have HC:=hid (jm.start h)
 have HO:=hid ho
 have hdd:¬ 100<d:=by omega
 clear h ho
 go_enter Tryd.func86,Tryd.ntmps86
 go_wp2
 go_loopw [5] (fun i wr=>∃ k:Int,i=.int .i64 k∧20≤k∧k≤29∧jm b V all w x wr) (fun i _=>(29-intOf i).toNat)
 case atStart=>exact⟨20,rfl,by omega,by omega,HC.out⟩
 case round=>
  obtain⟨k,rfl,hk1,hk2,hC⟩:=hrel
  replace HC:=hid hC
  clear hC
  by_cases hlt:k≤28
  · obtain⟨s,hs⟩:∃ s,xK k=s:=⟨_,rfl⟩
    have HS:=hid hs
    have HV:=hid (isAt_over HO.out s.data.toList)
    clear hs
    go_wp2_with (first
     | (go_at_call 90;(with_reducible refine(xO k s HS.out HC.out.st).mono ?_);rintro e w2 ⟨rfl,hD⟩;replace HC:=hid (HC.out.step hD);clear hD)
     | (go_at_call 43;(with_reducible refine(zF HC.out.st s HV.out).mono ?_);rintro e w3 ⟨rfl,hD⟩;replace HC:=hid (HC.out.step hD);clear hD))
    go_roundw
    case rel=>exact⟨k+1,rfl,by omega,by omega,HC.out⟩
    case measure=>simp[intOf];omega
  · obtain rfl:k=29:=by omega
    go_wp2_with (go_at_call 91;(with_reducible refine(vx HC.out.st HO.out d).mono ?_);rintro e w2 ⟨rfl,hD⟩;replace HC:=hid (HC.out.step hD);clear hD;obtain⟨⟨c0,c1,c2,c3,c4⟩,fz⟩:=HC.out.own)
    obtain⟨f0,f1,f2,f3,f4⟩:=HC.out.read (.int .i64 0) (.int .i64 0) (.int .i64 0) (.string ⟨#[]⟩) (.slice none 0 0)
    refine bodyPost_ret (v:=ex0V) (by simp[results,Tryd.results86,go_sem,f0,f1,f2,f3,f4]) rfl ?_
    exact⟨rfl,HC.out.did.writ HC.out.2.2.1 (Nat.le_refl _) HC.out.ne _ _ _ _ _⟩
theorem unary_bad {b:Nat} {V:Value} {all r:List Tok} {x:PR Unit} {w:World} {d:Int} (hx:x=.bad r) (h:jS b V all x w) (hd:0≤d∧d≤1000) (ho:zm x=true) (hd2:100<d):
 Calls Tryd.prog 86 #[.pointer (some ⟨b,0,none⟩),.int .i64 d] w fun e w'=>e=.returned ex0V∧q7 b V all w x w':=by
 have HC:=hid (jm.start h)
 have HO:=hid ho
 have b2:w.cell? ⟨b,2,none⟩=some (.bool true):=by
  rw[hx]at h
  exact(zY.cells (show zY b V all r true false w from h)).2.2.1
 have hlt:=h.lt
 clear h ho hx
 go_enter Tryd.func86,Tryd.ntmps86
 go_wp2
 go_loopw [5] (fun i wr=>∃ k:Int,i=.int .i64 k∧20≤k∧k≤29∧jm b V all w x wr) (fun i _=>(29-intOf i).toNat)
 case atStart=>exact⟨20,rfl,by omega,by omega,HC.out⟩
 case round=>
  obtain⟨k,rfl,hk1,hk2,hC⟩:=hrel
  replace HC:=hid hC
  clear hC
  by_cases hlt:k≤28
  · obtain⟨s,hs⟩:∃ s,xK k=s:=⟨_,rfl⟩
    have HS:=hid hs
    have HV:=hid (isAt_over HO.out s.data.toList)
    clear hs
    go_wp2_with (first
     | (go_at_call 90;(with_reducible refine(xO k s HS.out HC.out.st).mono ?_);rintro e w2 ⟨rfl,hD⟩;replace HC:=hid (HC.out.step hD);clear hD)
     | (go_at_call 43;(with_reducible refine(zF HC.out.st s HV.out).mono ?_);rintro e w3 ⟨rfl,hD⟩;replace HC:=hid (HC.out.step hD);clear hD))
    go_roundw
    case rel=>exact⟨k+1,rfl,by omega,by omega,HC.out⟩
    case measure=>simp[intOf];omega
  · obtain rfl:k=29:=by omega
    go_wp2_with (go_at_call 91;(with_reducible refine(vx HC.out.st HO.out d).mono ?_);rintro e w2 ⟨rfl,hD⟩;replace HC:=hid (HC.out.step hD);clear hD;obtain⟨⟨c0,c1,c2,c3,c4⟩,fz⟩:=HC.out.own)
    obtain⟨f0,f1,f2,f3,f4⟩:=HC.out.read (.int .i64 0) (.int .i64 0) (.int .i64 0) (.string ⟨#[]⟩) (.slice none 0 0)
    refine bodyPost_ret (v:=ex0V) (by simp[results,Tryd.results86,go_sem,f0,f1,f2,f3,f4]) rfl ?_
    exact⟨rfl,HC.out.did.writ HC.out.2.2.1 (Nat.le_refl _) HC.out.ne _ _ _ _ _⟩
theorem jm.deepen {b:Nat} {V:Value} {all r:List Tok} {dp:Bool} {w:World} (h:zY b V all r false dp w):jm b V all w (.deep r) ((w.alloc yR).setCell ⟨b,3,none⟩ (.bool true))∧jm b V all w (.deep r) ((w.setCell ⟨b,3,none⟩ (.bool true)).alloc yR):=by
 have hst:∃ x,jS b V all x w∧zY b V all r false dp w:=by
  cases dp with
  | false=>exact⟨.ok () r,h,h⟩
  | true=>exact⟨.deep r,h,h⟩
 obtain⟨x,hx,_⟩:=hst
 have h1:=jm.start hx
 have hp:zY b V all r false dp (w.alloc yR):=h.off ((Below.refl _ _).alloc (Nat.le_refl _) _)
 refine⟨h1.step ⟨hp.deepen,(OffB.refl b _ _).setb hp.lt 3 _⟩,?_⟩
 have hd:q7 b V all w (.deep r) (w.setCell ⟨b,3,none⟩ (.bool true)):=⟨h.deepen,(OffB.refl b _ _).setb h.lt 3 _⟩
 refine⟨hd.alloc _,?_,h.2.1,h.lt⟩
 have:=heap_alloc_new (w.setCell ⟨b,3,none⟩ (.bool true)) yR
 rw[jp]at this
 exact this
theorem unary_deep {b:Nat} {V:Value} {all r:List Tok} {dp:Bool} {w:World} {d:Int} (h:zY b V all r false dp w) (hd:0≤d∧d≤1000) (hd2:100<d):
 Calls Tryd.prog 86 #[.pointer (some ⟨b,0,none⟩),.int .i64 d] w fun e w'=>e=.returned ex0V∧q7 b V all w (.deep r) w':=by
 have HC0:=hid (jm.deepen h)
 obtain⟨_,_,b2,b3⟩:=h.cells
 have f3:=h.1.frozen 3
 have hlt:=h.lt
 obtain⟨x,hx⟩:∃ x:PR Unit,x=.deep r:=⟨_,rfl⟩
 have HX:=hid hx
 have HO:=hid (show zm x=true by rw[hx];rfl)
 rw[←hx]
 rw[←hx]at HC0
 clear h hx
 go_enter Tryd.func86,Tryd.ntmps86
 go_wp2
 clear b2 b3 f3
 go_loopw [5] (fun i wr=>∃ k:Int,i=.int .i64 k∧20≤k∧k≤29∧jm b V all w x wr) (fun i _=>(29-intOf i).toNat)
 case atStart=>exact⟨20,rfl,by omega,by omega,by first | exact HC0.out.1 | exact HC0.out.2⟩
 case round=>
  obtain⟨k,rfl,hk1,hk2,hC⟩:=hrel
  have HC:=hid hC
  clear hC
  by_cases hlt:k≤28
  · obtain⟨s,hs⟩:∃ s,xK k=s:=⟨_,rfl⟩
    have HS:=hid hs
    have HV:=hid (isAt_over HO.out s.data.toList)
    clear hs
    go_wp2_with (first
     | (go_at_call 90;(with_reducible refine(xO k s HS.out HC.out.st).mono ?_);rintro e w2 ⟨rfl,hD⟩;replace HC:=hid (HC.out.step hD);clear hD)
     | (go_at_call 43;(with_reducible refine(zF HC.out.st s HV.out).mono ?_);rintro e w3 ⟨rfl,hD⟩;replace HC:=hid (HC.out.step hD);clear hD))
    go_roundw
    case rel=>exact⟨k+1,rfl,by omega,by omega,HC.out⟩
    case measure=>simp[intOf];omega
  · obtain rfl:k=29:=by omega
    go_wp2_with (go_at_call 91;(with_reducible refine(vx HC.out.st HO.out d).mono ?_);rintro e w2 ⟨rfl,hD⟩;replace HC:=hid (HC.out.step hD);clear hD;obtain⟨⟨c0,c1,c2,c3,c4⟩,fz⟩:=HC.out.own)
    obtain⟨f0,f1,f2,f3,f4⟩:=HC.out.read (.int .i64 0) (.int .i64 0) (.int .i64 0) (.string ⟨#[]⟩) (.slice none 0 0)
    refine bodyPost_ret (v:=ex0V) (by simp[results,Tryd.results86,go_sem,f0,f1,f2,f3,f4]) rfl ?_
    exact⟨rfl,HC.out.did.writ HC.out.2.2.1 (Nat.le_refl _) HC.out.ne _ _ _ _ _⟩
theorem unAt_hit {k:Int} {r:List Tok} (h1:20≤k) (h2:k≤28) (hk:z9 (yC k) r=true) (h:∀ j,20≤j→j<k→z9 (yC j) r=false):vP r=k:=by
 show qy r ones=k
 rw[ones_range]
 exact unFrom_hit hk 9 20 h1 (by omega) h
theorem unAt_none {r:List Tok} (h:∀ j,20≤j→j<29→z9 (yC j) r=false):vP r=0:=by
 show qy r ones=0
 rw[ones_range]
 exact unFrom_none 9 20 h
theorem xE {W:World} {g:Nat} {c0 c1 c2 c3 c4:Value} {T:TypeId} (h:W.heap[g]? =some (.cells #[c0,c1,c2,c3,c4] T (0,0))):
 (W.cell? ⟨g,0,none⟩=some c0∧W.cell? ⟨g,1,none⟩=some c1∧W.cell? ⟨g,2,none⟩=some c2∧W.cell? ⟨g,3,none⟩=some c3∧W.cell? ⟨g,4,none⟩=some c4)∧∀ o,W.frozen? ⟨g,o,none⟩=false:=by
 refine⟨⟨(Lib.cell_of_heap h 0).trans rfl,(Lib.cell_of_heap h 1).trans rfl,(Lib.cell_of_heap h 2).trans rfl,(Lib.cell_of_heap h 3).trans rfl,(Lib.cell_of_heap h 4).trans rfl⟩,fun o=>?_⟩
 simp[World.frozen?,h]
theorem writ_other {w:World} {g k:Nat} (hk:k≠g) (c0 c1 c2 c3 c4:Value):(writ w g c0 c1 c2 c3 c4).heap[k]? =w.heap[k]?:=by
 unfold writ
 rw[Below.heap_setCell _ _ _ _ (by show k≠g;exact hk),Below.heap_setCell _ _ _ _ (by show k≠g;exact hk),Below.heap_setCell _ _ _ _ (by show k≠g;exact hk),Below.heap_setCell _ _ _ _ (by show k≠g;exact hk),Below.heap_setCell _ _ _ _ (by show k≠g;exact hk)]
theorem jm.writ2 {b g:Nat} {V:Value} {all:List Tok} {w W:World} {x:PR Unit} (h:jm b V all w x W) (hg:w.heap.size<g) (c0 c1 c2 c3 c4:Value):jm b V all w x (writ W g c0 c1 c2 c3 c4):=
 ⟨h.1.writ h.2.2.1 (by omega) (by have:=h.2.2.2;omega) _ _ _ _ _,(writ_other (by omega) _ _ _ _ _).trans h.2.1,h.2.2⟩
abbrev nest (W:World) (g:Nat) (c0 c1 c2 c3 c4:Value):World:=((((W.setCell ⟨g,0,none⟩ c0).setCell ⟨g,1,none⟩ c1).setCell ⟨g,2,none⟩ c2).setCell ⟨g,3,none⟩ c3).setCell ⟨g,4,none⟩ c4
theorem jm.nest {b g:Nat} {V:Value} {all:List Tok} {w W:World} {x:PR Unit} (h:jm b V all w x W) (hg:w.heap.size<g) (c0 c1 c2 c3 c4:Value):jm b V all w x (nest W g c0 c1 c2 c3 c4):=h.writ2 hg c0 c1 c2 c3 c4
theorem unary_live {b:Nat} {V:Value} {all r:List Tok} {w:World} {n:Nat} {d:Int} (hE:CE b V all n 1 (d+1)) (hU:CU b V all n (d+1)) (hP:CP b V all n d) (h:zY b V all r false false w) (hd:0≤d∧d≤100) (hn:zG (pU (n+1) d r)):
 Calls Tryd.prog 86 #[.pointer (some ⟨b,0,none⟩),.int .i64 d] w (qM b V all w (pU (n+1) d r) (kN w.heap.size)):=by
 obtain⟨hd0,hd1⟩:=hd
 have HC:=hid (jm.start (x:=.ok () r) h)
 have hdd:¬ 100<d:=by omega
 have HE:=hid hE
 have HU:=hid hU
 have HP:=hid hP
 have HN:=hid hn
 clear h hE hU hP hn
 go_enter Tryd.func86,Tryd.ntmps86
 go_wp2
 go_loopw [5] (fun i wr=>∃ k:Int,i=.int .i64 k∧20≤k∧k≤29∧(∀ j,20≤j→j<k→z9 (yC j) r=false)∧jm b V all w (.ok () r) wr) (fun i _=>(29-intOf i).toNat)
 case atStart=>exact⟨20,rfl,by omega,by omega,fun j h1 h2=>by omega,HC.out⟩
 case round=>
  obtain⟨k,rfl,hk1,hk2,hno,hC⟩:=hrel
  replace HC:=hid hC
  have HNO:=hid hno
  clear hC hno
  by_cases hlt:k≤28
  · obtain⟨s,hs⟩:∃ s,xK k=s:=⟨_,rfl⟩
    have HS:=hid hs
    cases hv:zS s.data.toList (PR.ok () r) with
    | false=>
      have hno2:∀ j,20≤j→j<k+1→z9 (yC j) r=false:=fun j h1 h2=>by
       by_cases e:j=k
       · subst e
         unfold yC
         rw[hs]
         exact hv
       · exact HNO.out j h1 (by omega)
      replace HNO:=hid hno2
      have HV:=hid hv
      clear hs hv hno2
      go_wp2_with (first
       | (go_at_call 90;(with_reducible refine(xO k s HS.out HC.out.st).mono ?_);rintro e w2 ⟨rfl,hD⟩;replace HC:=hid (HC.out.step hD);clear hD)
       | (go_at_call 43;(with_reducible refine(zF HC.out.st s HV.out).mono ?_);rintro e w3 ⟨rfl,hD⟩;replace HC:=hid (HC.out.step hD);clear hD))
      go_roundw
      case rel=>exact⟨k+1,rfl,by omega,by omega,HNO.out,HC.out⟩
      case measure=>simp[intOf];omega
    | true=>
      have hun:vP r=k:=unAt_hit hk1 hlt (by unfold yC;rw[hs];exact hv) HNO.out
      have hk0:¬ k=0:=by omega
      have HV:=hid hv
      by_cases h23:23≤k
      · have ex:pU (n+1) d r=(zI [40] r.tail).bind fun _ r=>(pE n 1 (d+1) r).bind fun e r=>(zI [41] r).bind fun _ r=>.ok (.mk 4 k 0 bE [e]) r:=by rw[pU,if_neg (by omega),hun,if_neg hk0,if_pos h23]
        have hN2:=HN.out
        rw[←zW]at ex
        rw[ex]at hN2
        have EX:=hid ex
        replace HN:=hid (show zG ((zI [40] r.tail).bind fun _ r=>pE n 1 (d+1) r) from zv hN2)
        clear hs hv hun ex hN2 HNO
        go_wp2_with (first
         | (go_at_call 90;(with_reducible refine(xO k s HS.out HC.out.st).mono ?_);rintro e w2 ⟨rfl,hD⟩;replace HC:=hid (HC.out.step hD);clear hD)
         | (go_at_call 43;(with_reducible refine(zl HC.out.st s HV.out).mono ?_);rintro e w3 ⟨rfl,hD⟩
            replace HC:=hid (show jm b V all w (.ok () r.tail) w3 from HC.out.step hD)
            clear hD)
         | (go_at_call 45;(with_reducible refine(zb HC.out.st ⟨#[40]⟩).mono ?_);rintro e w4 ⟨rfl,hD⟩
            replace HC:=hid (show jm b V all w (zI [40] r.tail) w4 from HC.out.step hD)
            have hz4:=HC.out.size
            have hb4:=HC.out.st.lt
            have hne4:w4.heap.size≠b:=by omega
            clear hD)
         | (go_at_call 81;(with_reducible refine(HE.out.call (HC.out.alloc yR).st HN.out).mono ?_);rintro e w5 ⟨v,rfl,hD,hG⟩
            obtain⟨k1,k2,k3,k4,k5,k6,k7,rfl⟩:=q6 hG HN.out
            have HG:=hid hG
            have hr5:=qe hD.off (k:=w4.heap.size) (by simp) hne4 (heap_alloc_new w4 yR)
            have HR:=hid hr5
            obtain⟨⟨p0,p1,p2,p3,p4⟩,pz⟩:=xE hr5
            replace HC:=hid ((HC.out.alloc yR).step hD)
            clear hD hG hr5)
         | (go_at_call 45;(with_reducible refine(zb (HC.out.nest hz4 (.int .i64 k1) (.int .i64 k2) (.int .i64 k3) (.string k4) (.slice k5 k6 k7)).st ⟨#[41]⟩).mono ?_);rintro e w6 ⟨rfl,hD⟩
            have hz5:w4.heap.size<w5.heap.size:=(Array.getElem?_eq_some_iff.1 HR.out).1
            have hr6:=qe hD.off (k:=w4.heap.size) (by simp;exact hz5) hne4 (writ_row HR.out _ _ _ _ _)
            have HK:=hid ((zM.writ (L:=(w4.alloc yR).heap.size) (w:=w5) (g:=w4.heap.size) (by simp) (.int .i64 k1) (.int .i64 k2) (.int .i64 k3) (.string k4) (.slice k5 k6 k7)).trans (zM.did hD (by simp;omega)))
            obtain⟨⟨s0,s1,s2,s3,s4⟩,sz⟩:=xE hr6
            replace HC:=hid ((HC.out.writ2 hz4 (.int .i64 k1) (.int .i64 k2) (.int .i64 k3) (.string k4) (.slice k5 k6 k7)).step hD)
            obtain⟨⟨c0,c1,c2,c3,c4⟩,fz⟩:=HC.out.own
            have hz6:=HC.out.size
            clear hD hr6))
        obtain⟨f0,f1,f2,f3,f4⟩:=HC.out.reada (.cells #[.int .i64 k1,.int .i64 k2,.int .i64 k3,.string k4,.slice k5 k6 k7] 48) (.int .i64 4) (.int .i64 k) (.int .i64 0) (.string ⟨#[]⟩) (.slice (some ⟨w6.heap.size,0,none⟩) 1 1)
        refine bodyPost_ret (v:=.agg #[.int .i64 4,.int .i64 k,.int .i64 0,.string ⟨#[]⟩,.slice (some ⟨w6.heap.size,0,none⟩) 1 1]) (by simp[results,Tryd.results86,go_sem,f0,f1,f2,f3,f4]) rfl ?_
        rw[EX.out]
        refine HC.out.fina ?_ ((HG.out.imp fun a ha=>(show kN w.heap.size ((writ w6 w.heap.size _ _ _ _ _).alloc _) (.mk 4 k 0 bE [a]) _ from⟨_,rfl,⟨by show (_:Int)≤0;decide,by show (0 :Int)≤_;decide⟩,vU ((kN.keep ha HK.out (Nat.le_refl _)).writ (by simp;omega) _ _ _ _ _) (Nat.le_refl _) (by rw[xM];omega) (xM _ _ _ _ _ _ _).symm⟩)).bind (fun a r _ ha=>yn ha) fun a ha=>⟨_,ha⟩)
        rw[jP]
        simp only[xD]
        rw[←bind_un]
      · have ex:pU (n+1) d r=(pU n (d+1) r.tail).bind fun e r=>.ok (.mk 4 k 0 bE [e]) r:=by rw[pU,if_neg (by omega),hun,if_neg hk0,if_neg h23]
        have hN2:=HN.out
        rw[ex]at hN2
        have EX:=hid ex
        replace HN:=hid (show zG ((PR.ok () r.tail).bind fun _ r=>pU n (d+1) r) from zv hN2)
        clear hs hv hun ex hN2 HNO
        go_wp2_with (first
         | (go_at_call 90;(with_reducible refine(xO k s HS.out HC.out.st).mono ?_);rintro e w2 ⟨rfl,hD⟩;replace HC:=hid (HC.out.step hD);clear hD)
         | (go_at_call 43;(with_reducible refine(zl HC.out.st s HV.out).mono ?_);rintro e w4 ⟨rfl,hD⟩
            replace HC:=hid (show jm b V all w (.ok () r.tail) w4 from HC.out.step hD)
            have hz4:=HC.out.size
            have hb4:=HC.out.st.lt
            have hne4:w4.heap.size≠b:=by omega
            clear hD)
         | (go_at_call 86;(with_reducible refine(HU.out.call (HC.out.alloc yR).st HN.out).mono ?_);rintro e w5 ⟨v,rfl,hD,hG⟩
            obtain⟨k1,k2,k3,k4,k5,k6,k7,rfl⟩:=q6 hG HN.out
            have HG:=hid hG
            have hr5:=qe hD.off (k:=w4.heap.size) (by simp) hne4 (heap_alloc_new w4 yR)
            have HR:=hid hr5
            obtain⟨⟨p0,p1,p2,p3,p4⟩,pz⟩:=xE hr5
            replace HC:=hid ((HC.out.alloc yR).step hD)
            obtain⟨⟨c0,c1,c2,c3,c4⟩,fz⟩:=HC.out.own
            have hz5:=HC.out.size
            clear hD hG hr5))
        have HC2:=hid (HC.out.writ2 hz4 (.int .i64 k1) (.int .i64 k2) (.int .i64 k3) (.string k4) (.slice k5 k6 k7))
        obtain⟨f0,f1,f2,f3,f4⟩:=HC2.out.reada (.cells #[.int .i64 k1,.int .i64 k2,.int .i64 k3,.string k4,.slice k5 k6 k7] 48) (.int .i64 4) (.int .i64 k) (.int .i64 0) (.string ⟨#[]⟩) (.slice (some ⟨w5.heap.size,0,none⟩) 1 1)
        unfold writ at f0 f1 f2 f3 f4
        refine bodyPost_ret (v:=.agg #[.int .i64 4,.int .i64 k,.int .i64 0,.string ⟨#[]⟩,.slice (some ⟨w5.heap.size,0,none⟩) 1 1]) (by simp[results,Tryd.results86,go_sem,f0,f1,f2,f3,f4]) rfl ?_
        rw[EX.out]
        have hz:(writ (writ w5 w4.heap.size (.int .i64 k1) (.int .i64 k2) (.int .i64 k3) (.string k4) (.slice k5 k6 k7)) w.heap.size (.int .i64 4) (.int .i64 k) (.int .i64 0) (.string ⟨#[]⟩) (.slice (some ⟨w5.heap.size,0,none⟩) 1 1)).heap.size=w5.heap.size:=by rw[xM,xM]
        refine HC2.out.fina (by rw[jP];rfl) (jE.bind HG.out (fun a r _ ha=>?_) fun a ha=>⟨.mk 4 k 0 bE [a],?_⟩)
        all_goals exact⟨_,rfl,⟨by show (_:Int)≤0;decide,by show (0 :Int)≤_;decide⟩,vU ((kN.keep ha (zM.writ (by simp) _ _ _ _ _) (Nat.le_refl _)).writ (by simp;omega) _ _ _ _ _) (Nat.le_refl _) (by rw[hz];omega) hz.symm⟩
  · obtain rfl:k=29:=by omega
    have hun:vP r=0:=unAt_none HNO.out
    have ex:pU (n+1) d r=pP n d r:=by rw[pU,if_neg (by omega),hun,if_pos rfl]
    have EX:=hid ex
    have hN2:=HN.out
    rw[ex]at hN2
    replace HN:=hid (show zG ((PR.ok () r).bind fun _ r=>pP n d r) from hN2)
    clear hun ex hN2 HNO
    go_wp2_with (first
     | (go_at_call 91;(with_reducible refine(HP.out.call HC.out.st HN.out).mono ?_);rintro e w2 ⟨v,rfl,hD,hG⟩
        obtain⟨k1,k2,k3,k4,k5,k6,k7,rfl⟩:=q6 hG HN.out
        have hz1:=HC.out.size
        have HG:=hid hG
        replace HC:=hid (HC.out.step hD)
        clear hD hG
        obtain⟨⟨c0,c1,c2,c3,c4⟩,fz⟩:=HC.out.own))
    obtain⟨f0,f1,f2,f3,f4⟩:=HC.out.read (.int .i64 k1) (.int .i64 k2) (.int .i64 k3) (.string k4) (.slice k5 k6 k7)
    refine bodyPost_ret (v:=.agg #[.int .i64 k1,.int .i64 k2,.int .i64 k3,.string k4,.slice k5 k6 k7]) (by simp[results,Tryd.results86,go_sem,f0,f1,f2,f3,f4]) rfl ?_
    rw[EX.out]
    exact HC.out.fin (X:=pP n d r) rfl (HG.out.imp fun a ha=>kN.writ ha hz1 _ _ _ _ _)
theorem unary_any {b:Nat} {V:Value} {all:List Tok} {n:Nat} {d:Int} (hE:d≤100→CE b V all n 1 (d+1)) (hU:d≤100→CU b V all n (d+1)) (hP:d≤100→CP b V all n d) (hd:0≤d∧d≤1000):CU b V all (n+1) d:=by
 intro w x h hn
 by_cases hd2:d≤100
 · cases ho:zm x with
   | true=>exact(unary_none h hd ho hd2).mono fun e w' ⟨he,hD⟩=>he ▸ un_over ho hD ex0 (ex0_fr _ _)
   | false=>
     cases x with
     | ok u r=>exact unary_live (hE hd2) (hU hd2) (hP hd2) h ⟨hd.1,hd2⟩ hn
     | bad r=>cases ho
     | deep r=>cases ho
     | out=>exact absurd h id
 · have hd3:100<d:=by omega
   cases x with
   | ok u r=>
     have ex:pU (n+1) d r=.deep r:=by rw[pU,if_pos hd3]
     show Calls _ _ _ _ (qM b V all w (pU (n+1) d r) _)
     rw[ex]
     exact(unary_deep (dp:=false) h hd hd3).mono fun e w' ⟨he,hD⟩=>⟨_,he,hD,ex0,ex0_fr _ _⟩
   | bad r=>exact(unary_bad (r:=r) rfl h hd rfl hd3).mono fun e w' ⟨he,hD⟩=>⟨_,he,hD,ex0,ex0_fr _ _⟩
   | deep r=>exact(unary_deep (dp:=true) h hd hd3).mono fun e w' ⟨he,hD⟩=>⟨_,he,hD,ex0,ex0_fr _ _⟩
   | out=>exact absurd h id
def RowAt (w:World) (v v':Value):Prop:=v'.ownBlock=v.ownBlock∨∃ g,v'.ownBlock=some g∧w.heap.size≤g
theorem append_at {P:Program} {w:World} {base:Nat} {t ty e:TypeId} {i:TypeInfo} {z:Value} {size bytes:Nat} (ht:P.underlying t=some (.slice e)) (hi:P.info? e=some i) (hz:i.zero=some z)
 (hsize:i.size=size) (hby:i.bytes=bytes) (hzs:z.cells.size=size) (hsz:0<size)
 {v:Value} {n:Nat} {xs:List Value} (hown:w.ownsRow base e size v n xs)
 {a:Addr} {m c:Nat} {news:List Value} (hl:news.length=m * size) (hnews:∀ j u,news[j]? =some u→w.cell? (a.add j)=some u) (h1:∀ u ∈ news,u.oneCell'=true)
 (h63:n+m≤maxLen) (hbytes:(n+m) * bytes≤140737488355328) (hm:0<m) {v':Value} {w':World}
 (hr:(Builtin.append_ #[t,t] ty #[v,.slice (some a) m c]).run P w=.ok v' w'):RowAt w v v':=by
 subst hsize hby
 rcases hown.2 with⟨rfl,rfl⟩ | ⟨g,cap,cur,rfl,hbg,hg,hnc,hcm,hcs,htake⟩
 · have h2:=run_append_nil (P:=P) w t ty e i z ht hi hz a m c news hl hnews (by omega) (by simp only[maxLen]at h63;omega) (by have hb:=hbytes;simp only[Nat.zero_add]at hb;omega)
   rw[h2]at hr
   injection hr with e1 _
   subst e1
   exact .inr ⟨_,rfl,Nat.le_refl _⟩
 · by_cases hroom:n+m≤cap
   · have h2:=run_append_room (P:=P) w t ty e i ht hi g n cap cur hg a m c news hl hnews h1 hroom (by rw[hl,hcs,←Nat.add_mul];exact Nat.mul_le_mul_right _ hroom)
     rw[h2]at hr
     injection hr with e1 _
     subst e1
     exact .inl rfl
   · have h2:=run_append_grow (P:=P) w t ty e i z ht hi hz ⟨g,0,none⟩ n cap xs hown.1 (hown.cells (g:=g) rfl) a m c news hl hnews (by omega) (by simp only[maxLen]at h63;omega) (growslice_fits (by simp only[maxLen]at h63;omega) hbytes)
     rw[h2]at hr
     injection hr with e1 _
     subst e1
     exact .inr ⟨_,rfl,Nat.le_refl _⟩
theorem kZ {P:Program} {w:World} {ops:Array Oper} {rest:List Oper} {o:Oper} {a:Act} {Q:Exit→Act→World→Prop} (hgd:o.guard=none) (s x:Operand) (t:TypeId)
 (ho:o.op=.call { callee:=.builtin .append,args:=#[s,x],argTypes:=#[t,t] })
 (base:Nat) (e:TypeId) (i:TypeInfo) (z:Value) (size bytes:Nat) (ht:P.underlying t=some (.slice e)) (hi:P.info? e=some i) (hz:i.zero=some z)
 (hsize:i.size=size) (hby:i.bytes=bytes) (hzs:z.cells.size=size) (hsz:0<size)
 (v:Value) (n:Nat) (xs:List Value) (hs:a.eval s=v) (hown:w.ownsRow base e size v n xs)
 (ad:Addr) (m c:Nat) (news:List Value) (hx:a.eval x=.slice (some ad) m c) (hl:news.length=m * size) (hnews:∀ j u,news[j]? =some u→w.cell? (ad.add j)=some u) (h1:∀ u ∈ news,u.oneCell'=true)
 (h63:n+m≤maxLen) (hbytes:(n+m) * bytes≤140737488355328) (hbase:base≤w.heap.size) (hm:0<m)
 (h:∀ v' w',w'.ownsRow base e size v' (n+m) (xs++news)→w.grownBy w' v.ownBlock→RowAt w v v'→wpList P ops Q rest (a.put o.dst v') w'):wpList P ops Q (o :: rest) a w:=by
 refine wpList_plain hgd fun K hK=>?_
 obtain⟨v',w',hr,h2,h3,_⟩:=run_append_own (P:=P) w base t o.type e i z size bytes ht hi hz hsize hby hzs hsz v n xs hown ad m c news hl hnews h1 h63 hbytes hbase
 have h4:=append_at ht hi hz hsize hby hzs hsz hown hl hnews h1 h63 hbytes hm hr
 have hk:=hK _ _ (h v' w' h2 h3 h4)
 unfold Oper.wp execOp
 simp only[ho,resolve,invoke,builtin,Sem.run_bind,Sem.run_pure,Result.andThen_ok,List.map_toArray,List.map_cons,List.map_nil,hs,hx,hr]
 exact hk
def exCs (ps:List (Ex × Value)):List Value:=ps.flatMap fun p=>[.int .i64 p.1.kind,.int .i64 p.1.op,.int .i64 p.1.n,.string p.1.name,p.2]
theorem exCs_snoc (ps:List (Ex × Value)) (p:Ex × Value):exCs (ps++[p])=exCs ps++[.int .i64 p.1.kind,.int .i64 p.1.op,.int .i64 p.1.n,.string p.1.name,p.2]:=by simp[exCs]
def yU (B:Nat) (v:Value):Nat→Bool:=fun k=>decide (k<B) || v.ownBlock == some k
theorem qR {B k:Nat} {v:Value}:yU B v k=false↔B≤k∧v.ownBlock≠some k:=by
 unfold yU
 simp[Bool.or_eq_false_iff]
def vy (B:Nat) (w:World) (v:Value) (acc:List Ex):Prop:=
 ∃ ps:List (Ex × Value),ps.map (·.1)=acc∧w.ownsRow B 48 5 v ps.length (exCs ps)∧∀ p ∈ ps,i64R p.1.n∧kf w.heap.size (mask (yU B v) w) p.2 p.1.args
theorem vy.nil (B:Nat) (w:World):vy B w (.slice none 0 0) []:=⟨[],rfl,World.ownsRow_nil w B _ 5,fun p hp=>by cases hp⟩
theorem vy.form {B:Nat} {w:World} {v:Value} {acc:List Ex} (h:vy B w v acc):∃ A c,v=.slice A acc.length c:=by
 obtain⟨ps,rfl,ho,_⟩:=h
 rw[List.length_map]
 exact kX ho
theorem vy.own {B:Nat} {w:World} {v:Value} {acc:List Ex} (h:vy B w v acc):∀ k,v.ownBlock=some k→k<w.heap.size∧B≤k:=by
 obtain⟨ps,_,ho,_⟩:=h
 exact own_lt ho
theorem kf.mask {p q:Nat→Bool} {w w':World} {v:Value} {l:List Ex} (h:kf w.heap.size (_root_.Go.Proofs.YtndgkfkieogplaaDoor.mask p w) v l) (hs:w.heap.size≤w'.heap.size) (hk:∀ k,k<w.heap.size→p k=false→q k=false∧w'.heap[k]? =w.heap[k]?):kf w'.heap.size (_root_.Go.Proofs.YtndgkfkieogplaaDoor.mask q w') v l:=by
 refine h.imp fun g o u hc=>?_
 obtain⟨hp,hc⟩:=jj hc
 obtain⟨hq,he⟩:=hk g hc.1 hp
 exact jU hq ⟨Nat.lt_of_lt_of_le hc.1 hs,(World.cell?_of_block (w:=w) he).trans hc.2⟩
theorem vy.keep {B:Nat} {w w':World} {v:Value} {acc:List Ex} (h:vy B w v acc) (k:zM B w w'):vy B w' v acc:=by
 have hown:=h.own
 obtain⟨ps,ha,ho,hp⟩:=h
 refine⟨ps,ha,own_keep ho fun j hj=>k.2 j (hown j hj).1 (hown j hj).2,fun p hm=>⟨(hp p hm).1,(hp p hm).2.mask k.1 fun j hj hq=>⟨hq,k.2 j hj (qR.1 hq).1⟩⟩⟩
theorem vy.app {B L:Nat} {w W w':World} {v v':Value} {acc:List Ex} {e:Ex} {k op n:Int} {s:ByteArray} {u:Value} (h:vy B w v acc) (he:kN L w e (.agg #[.int .i64 k,.int .i64 op,.int .i64 n,.string s,u])) (hB:B≤L) (hL:∀ k,v.ownBlock=some k→k<L)
 (hW:Below w.heap.size w W) (hg:W.grownBy w' v.ownBlock) (hr:RowAt W v v') (ho:w'.ownsRow B 48 5 v' (acc.length+1) ((exCs (Classical.choose h))++[.int .i64 k,.int .i64 op,.int .i64 n,.string s,u])):vy B w' v' (acc++[e]):=by
 obtain⟨hps,hown,hp⟩:=Classical.choose_spec h
 generalize Classical.choose h=ps at *
 obtain⟨args,rfl,hn,hs⟩:=exV_at he
 have hsz:w.heap.size≤w'.heap.size:=Nat.le_trans hW.size hg.size
 have hblk:∀ j,j<w.heap.size→v.ownBlock≠some j→v'.ownBlock≠some j∧w'.heap[j]? =w.heap[j]?:=fun j hj hne=>by
  refine⟨fun hc=>?_,(hg.block j (Nat.lt_of_lt_of_le hj hW.size) (fun e=>hne e.symm)).trans (hW.block j hj)⟩
  rcases hr with h1 | ⟨g,h1,h2⟩
  · exact hne (h1 ▸ hc)
  · rw[h1]at hc
    injection hc with hc
    have:=hW.size
    omega
 refine⟨ps++[(.mk k op n s args,u)],by rw[List.map_append,hps];rfl,?_,fun p hm=>?_⟩
 · rw[exCs_snoc,List.length_append,show ps.length=acc.length by rw[←hps,List.length_map]]
   exact ho
 · rcases List.mem_append.1 hm with hm | hm
   · refine⟨(hp p hm).1,(hp p hm).2.mask hsz fun j hj hq=>?_⟩
     obtain⟨h1,h2⟩:=qR.1 hq
     obtain⟨h3,h4⟩:=hblk j hj h2
     exact⟨qR.2 ⟨h1,h3⟩,h4⟩
   · obtain rfl:=List.mem_singleton.1 hm
     refine⟨hn,kf.mask hs hsz fun j hj hq=>?_⟩
     have hjL:=kY.1 hq
     obtain⟨h3,h4⟩:=hblk j hj (fun hc=>by have:=hL j hc;omega)
     exact⟨qR.2 ⟨by omega,h3⟩,h4⟩
theorem rdEs_of {N:Nat} {W:World} {g:Nat}:∀ (ps:List (Ex × Value)) (o:Nat),(∀ j u,(exCs ps)[j]? =some u→CellB N W g (o+j) u)→(∀ p ∈ ps,i64R p.1.n∧kf N W p.2 p.1.args)→jh N W (ps.map (·.1)) g o
 | [],_,_,_=>by
   show jh N W [] g _
   rw[jh]
   trivial
 | p :: r,o,hc,hp=>by
   show jh N W (p.1 :: r.map (·.1)) g o
   have e:exCs (p :: r)=.int .i64 p.1.kind :: .int .i64 p.1.op :: .int .i64 p.1.n :: .string p.1.name :: p.2 :: exCs r:=by simp[exCs]
   rw[e]at hc
   rw[jh]
   refine⟨?_,rdEs_of r (o+5) (fun j u hj=>?_) fun q hq=>hp q (List.mem_cons_of_mem _ hq)⟩
   · obtain⟨hn,hs⟩:=hp p (List.mem_cons_self ..)
     obtain⟨⟨k,op,n,nm,args⟩,u⟩:=p
     rw[RdE]
     exact⟨hc 0 _ rfl,hc 1 _ rfl,hc 2 _ rfl,hc 3 _ rfl,hn,u,hc 4 _ rfl,hs⟩
   · have:=hc (j+5) u (by simpa using hj)
     rw[show o+5+j=o+(j+5) by omega]
     exact this
theorem vy.read {B:Nat} {w:World} {v:Value} {acc:List Ex} (h:vy B w v acc) (hn:acc.length≤281474976710656):jK B w acc v:=by
 obtain⟨ps,rfl,ho,hp⟩:=h
 have hsub:∀ g o u,CellB w.heap.size (mask (yU B v) w) g o u→CellB w.heap.size (mask (low B) w) g o u:=fun g o u hc=>by
  obtain⟨hq,hc⟩:=jj hc
  exact jU (kY.2 (qR.1 hq).1) hc
 rcases ho.2 with⟨rfl,h0⟩ | ⟨g,cap,cur,rfl,h1,h2,h3,h4,h5,h6⟩
 · have:ps=[]:=List.eq_nil_of_length_eq_zero h0
   subst this
   exact vC _ _
 · refine⟨_,cap,?_,?_,fun _=>⟨g,0,rfl,?_⟩⟩
   · rw[List.length_map]
   · exact hn
   · have hglt:g<w.heap.size:=(Array.getElem?_eq_some_iff.1 h2).1
     refine rdEs_of ps 0 (fun j u hj=>?_) fun p hm=>⟨(hp p hm).1,(hp p hm).2.imp hsub⟩
     refine jU (kY.2 h1) ⟨hglt,?_⟩
     rw[Nat.zero_add,cell_of_row w g j cur _ (0,0) h2]
     rw[←h6,List.getElem?_take]at hj
     split at hj
     · simpa using hj
     · cases hj
theorem ex_info:(Tryd.prog.info? 48).map (fun i=>(i.zero,i.size,i.bytes))=some (some ex0V,5,64):=by kernel_rfl
def yP (b:Nat) (w:World):Nat:=match w.cell? ⟨b,1,none⟩ with | some (.int _ k)=>k.toNat | _=>0
theorem qx {b:Nat} {V:Value} {all r:List Tok} {bd dp:Bool} {w:World} (h:zY b V all r bd dp w):yP b w=all.length-r.length:=by
 unfold yP
 rw[h.cells.2.1]
 exact Int.toNat_natCast _
def firstN:Value→Nat
 | .bool true=>1
 | _=>0
def vF (m:Nat) (d:Int) (acc:List Ex) (r:List Tok):PR (List Ex):=if z9 [44] r=true then yq m d acc r.tail else (zI [41] r).bind fun _ r=>.ok acc r
def ArgB (b:Nat) (V:Value) (all:List Tok) (w:World) (T:PR (List Ex)) (n:Nat) (d:Int) (ov:Value) (wr:World):Prop:=
 ∃ (m:Nat) (acc:List Ex) (y:PR Unit),m≤n∧vy w.heap.size wr ov acc∧q7 b V all w y wr∧T=y.bind (fun _ r=>vF m d acc r)∧(zm y=false→acc.length≤yP b wr)∧acc.length≤2000000
def ArgRel (b:Nat) (V:Value) (all:List Tok) (w:World) (T:PR (List Ex)) (n:Nat) (d:Int) (r0:List Tok) (ov fv:Value) (wr:World):Prop:=
 (fv=.bool true∧ov=.slice none 0 0∧q7 b V all w (.ok () r0) wr)∨(fv=.bool false∧ArgB b V all w T n d ov wr)
theorem args_over {b:Nat} {V:Value} {all:List Tok} {x:PR Unit} {w:World} (h:jS b V all x w) (ho:zm x=true) (d:Int):
 Calls Tryd.prog 88 #[.pointer (some ⟨b,0,none⟩),.int .i64 d] w fun e w'=>e=.returned (.slice none 0 0)∧q7 b V all w x w':=by
 have HD:=hid (show q7 b V all w x w from⟨h,OffB.refl _ _ _⟩)
 have HO:=hid ho
 have HV:=hid (show zS (⟨#[41]⟩:ByteArray).data.toList x=false by cases x with | ok u r=>cases ho | _=>rfl)
 have HM:=hid (show (x.bind fun _ r=>zI (⟨#[41]⟩:ByteArray).data.toList r)=x by cases x with | ok u r=>cases ho | _=>rfl)
 clear h ho
 go_enter Tryd.func88,Tryd.ntmps88
 go_wp2_with (first
  | (go_at_call 43;(with_reducible refine(zF HD.out.st _ HV.out).mono ?_);rintro e w1 ⟨rfl,hD⟩;replace HD:=hid (HD.out.after hD);clear hD))
 go_loopw [5,6] (fun ov fv wr=>ov=.slice none 0 0∧fv=.bool true∧q7 b V all w x wr) (fun _ _ _=>0)
 case atStart=>exact⟨rfl,rfl,HD.out⟩
 case round=>
  obtain⟨rfl,rfl,hD⟩:=hrel
  replace HD:=hid hD
  clear hD
  go_wp2_with (first
   | (go_at_call 40;(with_reducible refine(zu HD.out.st true HO.out).mono ?_);rintro e w1 ⟨rfl,rfl⟩)
   | (go_at_call 45;(with_reducible refine(zb HD.out.st _).mono ?_);rintro e w2 ⟨rfl,hD⟩;rw[HM.out]at hD;replace HD:=hid (HD.out.after hD);clear hD))
  go_ret
  exact⟨rfl,HD.out⟩
theorem args_pre {B:Nat} {w:World} {v:Value} {acc:List Ex} (h:vy B w v acc) (c0 c1 c2 c3 c4:Value) (hB:B≤w.heap.size):
 (w.alloc (.cells #[c0,c1,c2,c3,c4] 48)).ownsRow B 48 5 v acc.length (exCs (Classical.choose h))∧
 (∀ j u,[c0,c1,c2,c3,c4][j]? =some u→(w.alloc (.cells #[c0,c1,c2,c3,c4] 48)).cell? ((⟨w.heap.size,0,none⟩:Addr).add j)=some u)∧B≤(w.alloc (.cells #[c0,c1,c2,c3,c4] 48)).heap.size:=by
 obtain⟨hps,hown,hp⟩:=Classical.choose_spec h
 refine⟨?_,fun j u hu=>?_,by rw[zA];omega⟩
 · have e:(Classical.choose h).length=acc.length:=by rw[←List.length_map (f:=(·.1)),hps]
   rw[e]at hown
   exact yZ hown ((Below.refl w.heap.size w).alloc (Nat.le_refl _) _) (Nat.le_refl _)
 · rw[show (⟨w.heap.size,0,none⟩:Addr).add j=⟨w.heap.size,j,none⟩ by unfold Addr.add;split <;> simp_all]
   exact(cell_of_row _ w.heap.size j _ _ (0,0) (heap_alloc_new w _)).trans (by simpa using hu)
def ArgNext (b:Nat) (V:Value) (all:List Tok) (w w':World) (q:Nat) (d:Int) (acc:List Ex) (r:List Tok) (v':Value):Prop:=
 ∃ (acc':List Ex) (y:PR Unit),vy w.heap.size w' v' acc'∧q7 b V all w y w'∧yq (q+1) d acc r=y.bind (fun _ r=>vF q d acc' r)∧(zm y=false→acc'.length≤yP b w')∧acc'.length≤2000000∧all.length-r.length≤yP b w'
theorem pAL_got {q:Nat} {d:Int} {acc:List Ex} {r:List Tok}:yq (q+1) d acc r=(pE q 1 d r).bind fun e r=>vF q d (acc++[e]) r:=by rw[yq];rfl
theorem args_next {b:Nat} {V:Value} {all:List Tok} {w w2 w':World} {q:Nat} {d:Int} {acc:List Ex} {r:List Tok} {v v':Value} {L:Nat} {k op n:Int} {s:ByteArray} {u:Value}
 (hO:vy w.heap.size w2 v acc) (hD:q7 b V all w ((PR.ok () r).bind fun _ r=>pE q 1 d r).un w2) (hG:jE ((PR.ok () r).bind fun _ r=>pE q 1 d r) fun a=>kN L w2 a (.agg #[.int .i64 k,.int .i64 op,.int .i64 n,.string s,u])) (hF:zg 1 r (pE q 1 d r))
 (hg:(w2.alloc (.cells #[.int .i64 k,.int .i64 op,.int .i64 n,.string s,u] 48)).grownBy w' v.ownBlock) (hr:RowAt (w2.alloc (.cells #[.int .i64 k,.int .i64 op,.int .i64 n,.string s,u] 48)) v v')
 (ho:w'.ownsRow w.heap.size 48 5 v' (acc.length+1) ((exCs (Classical.choose hO))++[.int .i64 k,.int .i64 op,.int .i64 n,.string s,u])) (hL:∀ k,v.ownBlock=some k→k<L) (hBL:w.heap.size≤L) (hrl:r.length≤all.length)
 (hacc:acc.length≤1000000) (hat:acc.length≤all.length-r.length) (ht:TokH b V all w) (hbw:b<w.heap.size):ArgNext b V all w w' q d acc r v':=by
 have hal:Below w2.heap.size w2 (w2.alloc (.cells #[.int .i64 k,.int .i64 op,.int .i64 n,.string s,u] 48)):=(Below.refl _ _).alloc (Nat.le_refl _) _
 have hmove:∀ x,q7 b V all w x w2→q7 b V all w x w':=fun x hx=>by
  have h1:=hx.alloc (.cells #[.int .i64 k,.int .i64 op,.int .i64 n,.string s,u] 48)
  have hob:v.ownBlock≠some b:=fun e=>by
   have h3:=(hO.own b e).2
   omega
  have hoff:OffB b w.heap.size w w':=h1.off.trans (OffB.mk' hg.os hg.tape hg.output hg.size h1.st.lt fun j hj hjb=>hg.block j (by have:=h1.off.size;omega) (fun e=>by
   have:=(hO.own j e.symm).2
   omega))
  exact⟨h1.st.move ht hoff (hg.block b h1.st.lt (fun e=>hob e.symm)),hoff⟩
 have hD2:=hmove _ hD
 cases hx:pE q 1 d r with
 | ok e r2=>
   have hx':((PR.ok () r).bind fun _ r=>pE q 1 d r)=.ok e r2:=hx
   rw[hx']at hG hD2
   rw[hx]at hF
   have hF':zL 1 r r2:=hF
   have hp:zY b V all r2 false false w':=hD2.st
   have hao:=qx hp
   have hl:=hF'.2.2
   refine⟨acc++[e],.ok () r2,hO.app hG hBL hL hal hg hr ho,hD2,by rw[pAL_got,hx];rfl,fun _=>?_,?_,?_⟩
   · rw[hao,List.length_append]
     simp
     omega
   · rw[List.length_append]
     simp
     omega
   · rw[hao]
     omega
 | bad r2=>
   have hx':((PR.ok () r).bind fun _ r=>pE q 1 d r)=.bad r2:=hx
   rw[hx']at hG hD2
   rw[hx]at hF
   have hF':zL 0 r r2:=hF
   have hp:zY b V all r2 true false w':=hD2.st
   have hao:=qx hp
   have hl:=hF'.2.2
   obtain⟨e,he⟩:=hG
   refine⟨acc++[e],.bad r2,hO.app he hBL hL hal hg hr ho,hD2,by rw[pAL_got,hx];rfl,(fun h=>by cases h),?_,?_⟩
   · rw[List.length_append]
     simp
     omega
   · rw[hao]
     omega
 | deep r2=>
   have hx':((PR.ok () r).bind fun _ r=>pE q 1 d r)=.deep r2:=hx
   rw[hx']at hG hD2
   rw[hx]at hF
   have hF':zL 0 r r2:=hF
   have hp:zY b V all r2 false true w':=hD2.st
   have hao:=qx hp
   have hl:=hF'.2.2
   obtain⟨e,he⟩:=hG
   refine⟨acc++[e],.deep r2,hO.app he hBL hL hal hg hr ho,hD2,by rw[pAL_got,hx];rfl,(fun h=>by cases h),?_,?_⟩
   · rw[List.length_append]
     simp
     omega
   · rw[hao]
     omega
 | out=>
   have hx':((PR.ok () r).bind fun _ r=>pE q 1 d r)=.out:=hx
   rw[hx']at hD2
   exact absurd hD2.st id
theorem ArgNext.rel {b:Nat} {V:Value} {all:List Tok} {w w':World} {q n:Nat} {d:Int} {acc:List Ex} {r:List Tok} {v':Value} {T:PR (List Ex)} (h:ArgNext b V all w w' q d acc r v') (hq:q≤n) (hT:T=yq (q+1) d acc r):ArgB b V all w T n d v' w':=by
 obtain⟨acc',y,h1,h2,h3,h4,h5,_⟩:=h
 exact⟨q,acc',y,hq,h1,h2,hT.trans h3,h4,h5⟩
theorem ArgNext.at {b:Nat} {V:Value} {all:List Tok} {w w':World} {q:Nat} {d:Int} {acc:List Ex} {r:List Tok} {v':Value} (h:ArgNext b V all w w' q d acc r v'):all.length-r.length≤yP b w':=by
 obtain⟨acc',y,h1,h2,h3,h4,h5,h6⟩:=h
 exact h6
theorem xq {b:Nat} {V:Value} {all r:List Tok} {w w':World} (h:q7 b V all w (.ok () r) w'):yP b w'=all.length-r.length∧r.length≤all.length∧all.length≤1000000∧zw r∧0<r.length:=by
 have hp:zY b V all r false false w':=h.st
 obtain⟨_,⟨_,_,_,_,_,_,hl,_⟩,hs,he⟩:=hp
 exact⟨qx h.st,suffix_len hs,hl,he,he.pos⟩
theorem arg_end {m:Nat} {d:Int} {acc:List Ex} {y:PR Unit} (hx:zS [44] y=false):y.bind (fun _ r=>vF m d acc r)=y.bind fun _ r=>(zI [41] r).bind fun _ r=>.ok acc r:=by
 cases y with
 | ok u r=>
   show vF m d acc r=_
   unfold vF
   rw[if_neg (by rw[show z9 [44] r=false from hx];decide)]
   rfl
 | _=>rfl
theorem arg_gave {b:Nat} {V:Value} {all:List Tok} {w W:World} {y:PR Unit} {acc:List Ex} {v:Value} {L:Nat} (hD:q7 b V all w (y.bind fun _ r=>zI [41] r) W) (hv:jK L W acc v):
 qM b V all w (y.bind fun _ r=>(zI [41] r).bind fun _ r=>.ok acc r) (jK L) (.returned v) W:=by
 refine⟨v,rfl,?_,?_⟩
 · rw[jP]
   simp only[xD]
   exact hD
 · cases y with
   | ok u r=>exact yn hv
   | bad r=>exact⟨acc,hv⟩
   | deep r=>exact⟨acc,hv⟩
   | out=>trivial
theorem args_live {b:Nat} {V:Value} {all r:List Tok} {w:World} {n:Nat} {d:Int} (hE:∀ m,m≤n→CE b V all m 1 d) (h:zY b V all r false false w) (hn:zG (pA (n+1) d r)):
 Calls Tryd.prog 88 #[.pointer (some ⟨b,0,none⟩),.int .i64 d] w (qM b V all w (pA (n+1) d r) (jK w.heap.size)):=by
 have HD:=hid (show q7 b V all w (.ok () r) w from⟨h,OffB.refl _ _ _⟩)
 have hlt0:=h.lt
 have HTK:=hid h.2.1
 cases hs:z9 [41] r with
 | true=>
   have ex:pA (n+1) d r=.ok [] r.tail:=by rw[pA,if_pos hs]
   rw[ex]
   have HV:=hid (show zS (⟨#[41]⟩:ByteArray).data.toList (PR.ok () r)=true from hs)
   clear h hn hs ex
   go_enter Tryd.func88,Tryd.ntmps88
   go_wp2_with (first
    | (go_at_call 43;(with_reducible refine(zl HD.out.st _ HV.out).mono ?_);rintro e w1 ⟨rfl,hD⟩;replace HD:=hid (HD.out.after hD);clear hD))
   go_ret
   exact⟨_,rfl,HD.out,vC _ _⟩
 | false=>
   have ex:pA (n+1) d r=yq n d [] r:=by rw[pA,if_neg (by rw[hs];decide)]
   rw[ex]at hn ⊢
   have HV:=hid (show zS (⟨#[41]⟩:ByteArray).data.toList (PR.ok () r)=false from hs)
   have HN:=hid hn
   have HE:=hid hE
   clear h hn hs ex hE
   go_enter Tryd.func88,Tryd.ntmps88
   go_wp2_with (first
    | (go_at_call 43;(with_reducible refine(zF HD.out.st _ HV.out).mono ?_);rintro e w1 ⟨rfl,hD⟩;replace HD:=hid (HD.out.after hD);clear hD))
   go_loopw [5,6] (fun ov fv wr=>ArgRel b V all w (yq n d [] r) n d r ov fv wr) (fun _ fv wr=>2 * (all.length-yP b wr)+firstN fv)
   case atStart=>exact .inl ⟨rfl,rfl,HD.out⟩
   case round=>
    obtain⟨i0,hi0,hz0,hz1,hz2⟩:=info_parts ex_info
    have HI0:=hid (And.intro hi0 (And.intro hz0 (And.intro hz1 hz2)))
    clear hi0 hz0 hz1 hz2
    rcases hrel with⟨rfl,rfl,hD⟩ | ⟨rfl,m,acc,y,hmn,hO,hD,hT,hacc,hac2⟩
    · replace HD:=hid hD
      have HD0:=hid hD
      obtain⟨hat,hrl,hal,hen,hrp⟩:=xq hD
      obtain⟨q,rfl⟩:∃ q,n=q+1:=by
       cases n with
       | zero=>have:=HN.out;rw[yq]at this;exact absurd this id
       | succ q=>exact⟨q,rfl⟩
      have hacc:([]:List Ex).length≤1000000:=by simp
      obtain⟨acc,hac⟩:∃ acc:List Ex,acc=[]:=⟨_,rfl⟩
      rw[←hac]at hacc
      have hacl:acc.length=0:=by rw[hac];rfl
      have HT:=hid (show yq (q+1) d [] r=yq (q+1) d acc r by rw[hac])
      have HO:=hid (show vy w.heap.size wr (.slice none 0 0) acc by rw[hac];exact vy.nil _ _)
      have HN2:=hid (show zG ((PR.ok () r).bind fun _ r=>pE q 1 d r) by have h1:=HN.out;rw[pAL_got]at h1;exact zv h1)
      have HF:=hid (qZ (n:=q) (lev:=1) (d:=d) hen)
      have HAT:=hid hat
      clear hD hat hac hen
      go_wp2_with
      (first
        | (go_at_call 40;(with_reducible refine(zu HD.out.st false rfl).mono ?_);rintro e w1 ⟨rfl,rfl⟩)
        | (go_at_call 81;(with_reducible refine((HE.out q (by omega)).call HD.out.st HN2.out).mono ?_);rintro e w2 ⟨v,rfl,hD,hG⟩
           obtain⟨k1,k2,k3,k4,k5,k6,k7,rfl⟩:=q6 hG HN2.out
           have HG:=hid hG
           have HO2:=hid (HO.out.keep (zM.did hD hlt0))
           have HLT:=hid HO.out.own
           replace HD:=hid (HD.out.after hD)
           have HPRE:=hid (args_pre HO2.out (.int .i64 k1) (.int .i64 k2) (.int .i64 k3) (.string k4) (.slice k5 k6 k7) (by have:=HD.out.off.size;omega))
           clear hD hG)
        | (at_builtin;refine kZ rfl (.tmp 19) (.tmp 23) _ rfl w.heap.size 48 i0 _ 5 64 Tryd.underlying46 HI0.out.1 HI0.out.2.1 HI0.out.2.2.1 HI0.out.2.2.2 rfl (by omega) (.slice none 0 0) acc.length _ rfl (by exact HPRE.out.1) ⟨w2.heap.size,0,none⟩ 1 1 [.int .i64 k1,.int .i64 k2,.int .i64 k3,.string k4,.slice k5 k6 k7] rfl rfl (by exact HPRE.out.2.1) (by simp[Value.oneCell']) (by simp only[maxLen];omega) (by omega) (by exact HPRE.out.2.2) (by omega) ?_;intro v1 w3 hown1 hg1 hr1;have HO1:=hid hown1;have HG1:=hid hg1;have HR1:=hid hr1;clear hown1 hg1 hr1))
      go_roundw
      case rel=>
       exact .inr ⟨rfl,(args_next (d:=d) HO2.out HD.out HG.out HF.out HG1.out HR1.out HO1.out (fun k hk=>(HLT.out k hk).1) (by have:=HD0.out.off.size;omega) (by omega) hacc (by omega) HTK.out hlt0).rel (n:=q+1) (by omega) HT.out⟩
      case measure=>
       have h1:=(args_next (d:=d) HO2.out HD.out HG.out HF.out HG1.out HR1.out HO1.out (fun k hk=>(HLT.out k hk).1) (by have:=HD0.out.off.size;omega) (by omega) hacc (by omega) HTK.out hlt0).at
       have h2:=HAT.out
       simp[firstN]
       omega
    · obtain⟨hbb,hx⟩:∃ v:Bool,zS [44] y=v:=⟨_,rfl⟩
      cases hbb with
      | true=>
        obtain⟨r1,rfl,hs1⟩:=uP hx
        obtain⟨hat,hrl,hal,hen,hrp⟩:=xq hD
        have hTT:yq n d [] r=yq m d acc r1.tail:=by
         rw[hT]
         show vF m d acc r1=_
         unfold vF
         rw[if_pos hs1]
        obtain⟨q,rfl⟩:∃ q,m=q+1:=by
         cases m with
         | zero=>have:=HN.out;rw[hTT,yq]at this;exact absurd this id
         | succ q=>exact⟨q,rfl⟩
        have hacc1:=hacc rfl
        rw[hat]at hacc1
        have htl:=jV hen
        have HAT:=hid hat
        have HV4:=hid (show zS (⟨#[44]⟩:ByteArray).data.toList (PR.ok () r1)=true from hs1)
        have hen2:=hen.sign hs1
        obtain⟨r2,hr2⟩:∃ r2,r2=r1.tail:=⟨_,rfl⟩
        rw[←hr2]at hTT htl hen2
        have HRT:=hid hr2
        have HT:=hid hTT
        have HN2:=hid (show zG ((PR.ok () r2).bind fun _ r=>pE q 1 d r) by have h1:=HN.out;rw[hTT,pAL_got]at h1;exact zv h1)
        have HF:=hid (qZ (n:=q) (lev:=1) (d:=d) hen2)
        have HO:=hid hO
        replace HD:=hid hD
        obtain⟨A0,c0,rfl⟩:=hO.form
        have hacc:acc.length≤1000000:=by omega
        clear hD hO hT hTT hat hx hs1 hen hen2 hr2
        go_wp2_with
        (first
          | (go_at_call 40;(with_reducible refine(zu HD.out.st false rfl).mono ?_);rintro e w1 ⟨rfl,rfl⟩)
          | (go_at_call 43;(with_reducible refine(zl HD.out.st _ HV4.out).mono ?_);rintro e w1 ⟨rfl,hD⟩
             have hD3:q7 b V all wr (.ok () r2) w1:=by rw[HRT.out];exact hD
             replace HO:=hid (HO.out.keep (zM.did hD3 hlt0))
             replace HD:=hid (HD.out.after hD3)
             have HD0:=HD
             clear hD hD3)
          | (go_at_call 81;(with_reducible refine((HE.out q (by omega)).call HD.out.st HN2.out).mono ?_);rintro e w2 ⟨v,rfl,hD,hG⟩
             obtain⟨k1,k2,k3,k4,k5,k6,k7,rfl⟩:=q6 hG HN2.out
             have HG:=hid hG
             have HO2:=hid (HO.out.keep (zM.did hD hlt0))
             have HLT:=hid HO.out.own
             replace HD:=hid (HD.out.after hD)
             have HPRE:=hid (args_pre HO2.out (.int .i64 k1) (.int .i64 k2) (.int .i64 k3) (.string k4) (.slice k5 k6 k7) (by have:=HD.out.off.size;omega))
             clear hD hG)
          | (at_builtin;refine kZ rfl (.tmp 19) (.tmp 23) _ rfl w.heap.size 48 i0 _ 5 64 Tryd.underlying46 HI0.out.1 HI0.out.2.1 HI0.out.2.2.1 HI0.out.2.2.2 rfl (by omega) (.slice A0 acc.length c0) acc.length _ rfl (by exact HPRE.out.1) ⟨w2.heap.size,0,none⟩ 1 1 [.int .i64 k1,.int .i64 k2,.int .i64 k3,.string k4,.slice k5 k6 k7] rfl rfl (by exact HPRE.out.2.1) (by simp[Value.oneCell']) (by simp only[maxLen];omega) (by omega) (by exact HPRE.out.2.2) (by omega) ?_;intro v1 w3 hown1 hg1 hr1;have HO1:=hid hown1;have HG1:=hid hg1;have HR1:=hid hr1;clear hown1 hg1 hr1))
        go_roundw
        case rel=>
         exact .inr ⟨rfl,(args_next (d:=d) HO2.out HD.out HG.out HF.out HG1.out HR1.out HO1.out (fun k hk=>(HLT.out k hk).1) (by have:=HD0.out.off.size;omega) (by omega) hacc (by omega) HTK.out hlt0).rel (n:=n) (by omega) HT.out⟩
        case measure=>
         have h1:=(args_next (d:=d) HO2.out HD.out HG.out HF.out HG1.out HR1.out HO1.out (fun k hk=>(HLT.out k hk).1) (by have:=HD0.out.off.size;omega) (by omega) hacc (by omega) HTK.out hlt0).at
         have h2:=HAT.out
         simp[firstN]
         omega
      | false=>
        have HV4:=hid (show zS (⟨#[44]⟩:ByteArray).data.toList y=false from hx)
        have hTT:=hT.trans (arg_end (m:=m) (d:=d) (acc:=acc) hx)
        have HT:=hid hTT
        have HO:=hid hO
        replace HD:=hid hD
        obtain⟨A0,c0,rfl⟩:=hO.form
        clear hD hO hT hTT hx hacc
        go_wp2_with (first
         | (go_at_call 43;(with_reducible refine(zF HD.out.st _ HV4.out).mono ?_);rintro e w1 ⟨rfl,hD⟩
            replace HO:=hid (HO.out.keep (zM.did hD hlt0))
            replace HD:=hid (HD.out.after hD)
            clear hD)
         | (go_at_call 45;(with_reducible refine(zb HD.out.st _).mono ?_);rintro e w2 ⟨rfl,hD⟩
            replace HO:=hid (HO.out.keep (zM.did hD hlt0))
            replace HD:=hid (HD.out.after hD)
            clear hD))
        go_ret
        rw[HT.out]
        exact arg_gave HD.out (HO.out.read (by omega))
end Go.Proofs.YtndgkfkieogplaaDoor
