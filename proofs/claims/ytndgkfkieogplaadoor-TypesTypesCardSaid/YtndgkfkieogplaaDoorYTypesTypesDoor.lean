import Derived.Deep.SlicePairs
import Derived.Test.YtndgkfkieogplaaDoorAgTyTd
import Derived.Test.YtndgkfkieogplaaDoorAgTyRk
import Derived.Test.YtndgkfkieogplaaDoorTie
import Derived.Test.YtndgkfkieogplaaDoorCards
set_option linter.unusedSimpArgs false
set_option linter.unusedVariables false
set_option maxRecDepth 100000
/- THE STATEMENT of the law TypesTypes and its tied card: for whatever input of its kinds the law returns true and its arguments read as before. Condition: wrap.rows reads as the program's text lays it; the card ties that to the text. -/
namespace Go.Proofs.YtndgkfkieogplaaDoor
open Lib (hid)
open Go.ChangeMaps (open_string shut_string)
open Go.ChangeShapes Go.WideShapes Go.ChangeAt Go.RowKit
theorem rdL_of {α:Type} {size:Nat} {F:α→Nat→Nat→Prop} {g:Nat}:∀ (l:List α) (o:Nat),(∀ i x,l[i]? =some x→F x g (o+i * size))→uM size F l g o
 | [],_,_=>trivial
 | a :: r,o,h=>⟨by simpa using h 0 a rfl,rdL_of r (o+size) fun i x hi=>by
     have:=h (i+1) x (by simpa using hi)
     rwa [show o+(i+1) * size=o+size+i * size by rw[Nat.add_mul,Nat.one_mul];omega]at this⟩
theorem params_in {H:Type} {enc:TypeId × Value→H} {W:World} {base:Nat} {v:Value} {d:DataW H} {p:List MemPlace} (h0:DataW.Trod enc Tryd.prog W 0 (fun _=>true) true 36 v d p) (hv:Value.okWide Tryd.prog W .any base 36 v):ParamsIn W v:=by
 obtain⟨a0,x9,cap0,rfl⟩:=okWide_slice Tryd.underlying36 hv
 obtain⟨fuel,hf⟩:=h0
 rcases Go.Deep.open_slice_pairs Tryd.underlying36 Tryd.underlying44 (by kernel_rfl) rfl rfl (by kernel_rfl) (by kernel_rfl) hf with hcs | ⟨a,len,cap,m,n,V0,V1,D0,D1,P0,P1,hcs,_,hl,hm,hmm,_,hx⟩
 · simp[Value.cells]at hcs
   obtain⟨⟨rfl,rfl,rfl⟩,_⟩:=hcs
   exact⟨none,0,0,rfl,by omega,fun _=>⟨[],rfl,⟨none,0,rfl,by simp,fun h=>absurd h (by simp)⟩,fun A n c e=>by injection e with _ e1 e2;omega⟩⟩
 · simp[Value.cells]at hcs
   obtain⟨rfl,rfl,rfl⟩:=hcs
   have hlm:x9≤m:=by rw[hmm];split <;> omega
   refine⟨_,x9,cap0,rfl,by unfold maxLen at hm;omega,fun h10=>?_⟩
   have each:∀ i,i<x9→∃ q:Pa,W.cell? (a.add (i * 2))=some (.string q.name)∧W.cell? (a.add (i * 2+1))=some (.int .i64 q.type):=by
    intro i hi
    obtain⟨c0,c1,g0,g1⟩:=hx i (by omega)
    obtain⟨s,e0,_,_⟩:=DataW.trod_string Tryd.underlying9 g0
    obtain⟨k,e1,_,_⟩:=DataW.trod_int Tryd.underlying3 g1
    simp only[List.cons.injEq,and_true]at e0 e1
    exact⟨⟨s,k⟩,by rw[c0,e0],by rw[c1,e1]⟩
   haveI:Inhabited Pa:=⟨⟨⟨#[]⟩,0⟩⟩
   obtain⟨q,hq⟩:=Go.Deep.choose_lt each
   refine⟨(List.range x9).map q,by simp,⟨some a,cap0,by simp,by simp;omega,fun hp=>?_⟩,fun A n c e=>by injection e with _ e1 e2;omega⟩
   have h00:0<x9:=by simpa using hp
   obtain⟨b,off,spot⟩:=a
   have hspot:spot=none:=by simpa[Addr.add] using World.cell?_spot (hq 0 h00).1
   subst hspot
   have hadd:∀ k,(⟨b,off,none⟩:Addr).add k=⟨b,off+k,none⟩:=fun k=>by unfold Addr.add;split <;> simp_all
   refine⟨b,off,rfl,rdL_of _ _ fun i x hi=>?_⟩
   have hil:i<x9:=by
    have:=(List.getElem?_eq_some_iff.1 hi).1
    simpa using this
   have hxi:x=q i:=by
    rw[List.getElem?_map,List.getElem?_range hil]at hi
    simpa using hi.symm
   subst hxi
   have h1:=(hq i hil).1
   have h2:=(hq i hil).2
   rw[hadd]at h1 h2
   exact⟨⟨block_lt_of_cell h1,h1⟩,⟨block_lt_of_cell h2,by rw[show off+i * 2+1=off+(i * 2+1) by omega];exact h2⟩⟩
theorem typesTypes_lifted (os:Os) (started:os.Started) (H:Type) (enc:TypeId × Value→H):
 ReturnsInHanded {} Tryd.checked os 4 .any (fun w args=>(Rows.typesTypesSpec.pre enc Tryd.prog Tryd.f4 [] false w args∧laidMetH Tryd.prog zr w)∧sizedMet enc Tryd.prog Tryd.f4 (OpenSpec.ofChange Rows.typesTypesSpec) false w args)
  (Rows.typesTypesSpec.post enc Tryd.prog Tryd.f4 false true false false):=by
 refine returnsInHanded_of_change_and (C:=Tryd.checked) (X:=fun w _=>laidMetH Tryd.prog zr w) (fun _ _ _ hh h=>h.of_heap hh) own started (by kernel_rfl) Tryd.func4
  (ChangeSpec.witness_shaped (enc:=enc) (C:=Tryd.checked) (os:=os) (X:=fun w _=>laidMetH Tryd.prog zr w) false (World.laidAll Tryd.prog os zr) #[.string ⟨#[]⟩,.slice none 0 0,.slice none 0 0] 8 (World.laidAll_os _ _ _)
    (World.shaped_of_ZipB (by kernel_rfl) (by kernel_rfl)) (by kernel_rfl) (by kernel_rfl) (by kernel_rfl)
    (uD os _)) ?_
 intro W base args ds gs before hval0 hW _ _ hL _
 have hval:∀ (j:Nat) t v,Tryd.f4.params[j]? =some t→args[j]? =some v→Value.okWide Tryd.prog W .any base t v:=hval0
 have hW':=hW
 obtain⟨p,q,hA0,hV,rfl,hfz,hnd⟩:=hW
 have hA:DataW.TrodAll enc Tryd.prog W 0 (fun _=>true) true Tryd.f4.params.toList args.toList ds p:=hA0
 rw[Tryd.params4]at hA hval
 obtain⟨v0,vs0,d0,ds0,p0,q0,hargs,rfl,rfl,h0,r0⟩:=trodAll_cons hA
 obtain⟨v1,vs1,d1,ds1,p1,q1,rfl,rfl,rfl,h1,r1⟩:=trodAll_cons r0
 obtain⟨v2,vs2,d2,ds2,p2,q2,rfl,rfl,rfl,h2,r2⟩:=trodAll_cons r1
 obtain⟨rfl,rfl,rfl⟩:=trodAll_nil r2
 obtain rfl:args=#[v0,v1,v2]:=by cases args;simp_all
 obtain⟨rfl,rfl⟩:=trodVars_none hV
 obtain⟨a0,rfl,rfl,rfl,w0⟩:=open_string Tryd.underlying9 (hval 0 9 v0 rfl rfl) h0
 have k1:=h1
 have k2:=h2
 have lt1:∀ x ∈ p1,x.block<W.heap.size:=by obtain⟨m,hm⟩:=k1;exact DataW.trod_lt m _ _ _ hm
 have lt2:∀ x ∈ p2,x.block<W.heap.size:=by obtain⟨m,hm⟩:=k2;exact DataW.trod_lt m _ _ _ hm
 have b1:=bytes_in h1 (hval 1 22 v1 rfl rfl)
 have b2:=params_in h2 (hval 2 36 v2 rfl rfl)
 clear hA0 hval0
 simp only[List.append_nil]at hW'
 have hT:=yL hL
 refine(ltypes_any _ a0 _ _ W hT (Nat.le_refl _) b1 b2).mono fun e W' ⟨he,bel⟩=>?_
 subst he
 exact⟨_,rfl,_,_,_,[],_,[],hW',trodAll_mk1 (shut_bool Tryd.underlying4 _),(trodAll_cons_mk (shut_string Tryd.underlying9 w0) (trodAll_cons_mk (Below.trod laidOut (by kernel_rfl) (of_decide_eq_true (by kernel_rfl)) k1 bel lt1) (trodAll_cons_mk (Below.trod laidOut (by kernel_rfl) (of_decide_eq_true (by kernel_rfl)) k2 bel lt2) trodAll_mk0))),rfl,bel.frame _,fun h=>by cases h⟩
theorem typesTypes_holds:Rows.TypesTypesSaid:=
 OpenClaim.holds_of_wide 4 Tryd.f4 rfl rfl rfl rfl rfl rfl rfl ⟨rfl,rfl,rfl,rfl,rfl⟩ rfl rfl rfl rfl rfl (by kernel_rfl) Tryd.func4 (by kernel_rfl)
  (of_decide_eq_true (by kernel_rfl)) (by unfold Func.isWrapper;first | (rw[if_pos (by decide+kernel)];kernel_rfl) | (rw[if_neg (by decide+kernel)];exact⟨rfl,rfl⟩))
  (fun os started H enc _=>typesTypes_lifted os started H enc)
theorem typesTypes_card:Rows.TypesTypesCardSaid:=
 Claim7.holds_tied_plain_at .later [] [.data] true Rows.typesTypesCard.stood.harness Rows.typesTypesCard.stood.looks
  typesTypes_holds (fun _ h=>by cases h) (by kernel_rfl) (fun _ h=>by cases h) typesTypes_row_tie rfl ⟨rfl,rfl⟩ (by kernel_rfl) rfl
  (fun f fn hf hfn=>by
    obtain rfl:f=4:=Option.some.inj ((show Tryd.prog.funcNamed "boxhedge/boxhedgelaw05.TypesTypes" =some 4 by kernel_rfl).symm.trans hf) |>.symm
    obtain rfl:fn=Tryd.f4:=(Option.some.inj (Tryd.func4.symm.trans hfn)).symm
    exact⟨by kernel_rfl,fun j t ht=>by
     rw[Tryd.params4]at ht
     have hm:t ∈ [9,22,36]:=by simpa using Array.mem_of_getElem? ht
     have hall:([9,22,36].all fun u=>!Tryd.prog.wantsStandIn u)=true:=by kernel_rfl
     exact(show Tryd.prog.wantsStandIn t=false by simpa using List.all_eq_true.1 hall t hm)⟩)
  (by kernel_rfl)
#print axioms typesTypes_card
end Go.Proofs.YtndgkfkieogplaaDoor
