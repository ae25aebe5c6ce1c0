import Derived.Test.YtfghofifjnbicaaGreatDoorAhZed
import Derived.Test.YtfghofifjnbicaaGreatDoorAhTreeVals
import Derived.LaidEqlPtr
import Derived.Lib.Builder
import Derived.Laws.AppendOwn
set_option linter.unusedSimpArgs false
set_option linter.unusedVariables false
set_option maxRecDepth 100000
/- Variables as a list linked by pointers: how it lies in memory; the contracts of find and with. -/
namespace Go.Proofs.YtfghofifjnbicaaGreatDoor
open Lib (hid)
open Go.RowKit
def jy:List Pa→ByteArray→Option Int
 | [],_=>none
 | x :: r,s=>if x.name=s then some x.type else jy r s
theorem firstT_app (s:ByteArray):∀ a b:List Pa,jy (a++b) s=match jy a s with | some t=>some t | none=>jy b s
 | [],b=>rfl
 | x :: r,b=>by
   rw[List.cons_append,jy,jy,firstT_app s r b];split <;> rfl
theorem kh (s:ByteArray):∀ l:List Pa,z5 l s=jy l.reverse s
 | []=>rfl
 | x :: r=>by
   rw[z5,kh s r,List.reverse_cons,firstT_app];rfl
def Seg (w:World) (C:Nat) (u:Value):Nat→Value→List Pa→Prop
 | B,v,[]=>v=u∧C≤B
 | B,v,x :: r=>∃ (g:Nat) (t:Value),v=.pointer (some ⟨g,0,none⟩)∧C≤g∧g<B∧w.heap[g]? =some (.cells #[.string x.name,.int .i64 x.type,t] 141 (0,0))∧Seg w C u g t r
theorem Seg.le {w:World} {C:Nat} {u:Value}:∀ {l:List Pa} {B:Nat} {v:Value},Seg w C u B v l→C≤B
 | [],_,_,h=>h.2
 | _ :: _,_,_,⟨_,_,_,h1,h2,_⟩=>by omega
theorem Seg.up {w:World} {C:Nat} {u:Value}:∀ {l:List Pa} {B B':Nat} {v:Value},Seg w C u B v l→B≤B'→Seg w C u B' v l
 | [],_,_,_,h,hB=>⟨h.1,by have:=h.2;omega⟩
 | _ :: _,_,_,_,⟨g,t,h0,h1,h2,h3⟩,hB=>⟨g,t,h0,h1,by omega,h3⟩
theorem Seg.keep {w w':World} {C:Nat} {u:Value}:∀ {l:List Pa} {B:Nat} {v:Value},Seg w C u B v l→(∀ g,C≤g→g<B→w'.heap[g]? =w.heap[g]?)→Seg w' C u B v l
 | [],_,_,h,_=>h
 | _ :: r,B,_,⟨g,t,h0,h1,h2,h3,h6⟩,hc=>⟨g,t,h0,h1,h2,(hc g h1 h2).trans h3,h6.keep fun k hk hl=>hc k hk (by omega)⟩
theorem Seg.below {w w':World} {C B:Nat} {u v:Value} {l:List Pa} (h:Seg w C u B v l) (hb:Below B w w'):Seg w' C u B v l:=h.keep fun g _ hg=>hb.block g hg
theorem Seg.join {w:World} {C D:Nat} {u t:Value}:∀ {l:List Pa} {B:Nat} {v:Value} {m:List Pa},Seg w D t B v l→Seg w C u D t m→Seg w C u B v (l++m)
 | [],_,_,_,h,g=>by obtain⟨rfl,h2⟩:=h;exact g.up h2
 | _ :: r,_,_,_,⟨k,x,h0,h1,h2,h3,h6⟩,g=>⟨k,x,h0,by have:=g.le;omega,h2,h3,h6.join g⟩
theorem Seg.none (w:World) (C B:Nat) (u:Value) (h:C≤B):Seg w C u B u []:=⟨rfl,h⟩
def vd (w:World) (C:Nat) (u:Value):Prop:=u=.pointer none∨∃ g cs,u=.pointer (some ⟨g,0,none⟩)∧g<C∧w.heap[g]? =some (.cells cs 141 (0,0))
def ptrN:Value→Nat
 | .pointer (some a)=>a.block+1
 | _=>0
theorem Seg.lower {w:World} {C:Nat} {u:Value} (hu:vd w C u) {g:Nat} {t:Value} {r:List Pa} (h:Seg w C u g t r):ptrN t<g+1:=by
 cases r with
 | nil=>
   obtain⟨rfl,h2⟩:=h;rcases hu with rfl | ⟨k,cs,rfl,hk,hkb⟩
   · simp[ptrN]
   · simp[ptrN];omega
 | cons x r=>
   obtain⟨k,_,rfl,_,h2,_⟩:=h;simp[ptrN];omega
theorem Seg.fin {w:World} {C:Nat} {u:Value} (hu:vd w C u) {B:Nat} {v:Value} {l:List Pa} (h:Seg w C u B v l):vd w B v:=by
 cases l with
 | nil=>
   obtain⟨rfl,h2⟩:=h;rcases hu with rfl | ⟨k,cs,rfl,hk,hkb⟩
   · exact .inl rfl
   · exact .inr ⟨k,cs,rfl,by omega,hkb⟩
 | cons x r=>
   obtain⟨k,_,rfl,_,h2,h3,_⟩:=h;exact .inr ⟨k,_,rfl,h2,h3⟩
theorem vd.keep {w w':World} {C:Nat} {u:Value} (h:vd w C u) (hc:∀ g,g<C→(∃ cs,w.heap[g]? =some (.cells cs 141 (0,0)))→w'.heap[g]? =w.heap[g]?):vd w' C u:=by
 rcases h with h | ⟨k,cs,h,hk,hkb⟩
 · exact .inl h
 · exact .inr ⟨k,cs,h,hk,(hc k hk ⟨cs,hkb⟩).trans hkb⟩
theorem vd.nil (w:World) (C:Nat):vd w C (.pointer none):=.inl rfl
theorem uh {P:Program} (w:World) {tp te:TypeId} {j:TypeInfo} {a b:Addr} {ca cb:Array Value} {ta tb:TypeId} (hp:P.underlying tp=some (.pointer te)) (hte:P.info? te=some j) (hsz:j.size≠0)
 (hne:a≠b) (ha:w.heap[a.block]? =some (.cells ca ta (0,0))) (hb:w.heap[b.block]? =some (.cells cb tb (0,0))):
 (binOp .neq tp (.pointer (some a)) (.pointer (some b))).run P w=.ok (.bool true) w:=by
 have h:∀ d:Nat,(Op.equalIn (d+1) tp (.pointer (some a)) (.pointer (some b))).run P w=.ok false w:=fun d=>by
  simp[Op.equalIn,run_underlying hp,sizeOf,typeInfo,hte,hsz,run_sameAddr_other w hne ha hb]
 simp only[binOp];simp[Op.equal,Op.maxDepth,h 9999]
theorem va_info:(Tryz.prog.info? 141).map (fun i=>(i.zero,i.size,i.bytes))=some (some (.agg #[.string ⟨#[]⟩,.int .i64 0,.pointer none]),3,32):=by kernel_rfl
theorem vneq (w:World) {g k:Nat} {cs ds:Array Value} (hne:g≠k) (h:w.heap[g]? =some (.cells cs 141 (0,0))) (h':w.heap[k]? =some (.cells ds 141 (0,0))):
 (binOp .neq 128 (.pointer (some ⟨g,0,none⟩)) (.pointer (some ⟨k,0,none⟩))).run Tryz.prog w=.ok (.bool true) w:=by
 obtain⟨i0,hi,_,hz1,_⟩:=info_parts va_info;exact uh w Tryz.underlying128 hi (by rw[hz1];decide) (by intro e;injection e with e;exact hne e) h h'
theorem vsame (w:World) (g:Nat):(binOp .neq 128 (.pointer (some ⟨g,0,none⟩)) (.pointer (some ⟨g,0,none⟩))).run Tryz.prog w=.ok (.bool false) w:=by
 obtain⟨i0,hi,_,_,_⟩:=info_parts va_info;exact Lib.run_neq_ptr_same w _ Tryz.underlying128 hi
theorem node_cells {w:World} {g:Nat} {c0 c1 c2:Value} {T:TypeId} {fr:Nat × Nat} (h:w.heap[g]? =some (.cells #[c0,c1,c2] T fr)):w.cell? ⟨g,0,none⟩=some c0∧w.cell? ⟨g,1,none⟩=some c1∧w.cell? ⟨g,2,none⟩=some c2:=
 ⟨(Lib.cell_of_heap h 0).trans rfl,(Lib.cell_of_heap h 1).trans rfl,(Lib.cell_of_heap h 2).trans rfl⟩
def FndPost (w:World) (B:Nat) (o:Option Int) (e:Ending):Prop:=match o with
 | some t=>∃ g,e=.returned (.pointer (some ⟨g,0,none⟩))∧g<B∧w.cell? ⟨g,1,none⟩=some (.int .i64 t)
 | none=>e=.returned (.pointer none)
set_option maxHeartbeats 1000000 in
theorem jg (w:World) (C B:Nat) (u v:Value) (l:List Pa) (s:ByteArray) (hB:B≤w.heap.size) (hu:vd w C u) (h:Seg w C u B v l):
 Calls Tryz.prog 91 #[v,u,.string s] w fun e w'=>FndPost w B (jy l s) e∧w=w':=by
 have HS:=hid h;have HU:=hid hu;clear h hu;go_enter Tryz.func91,Tryz.ntmps91;go_wp2_with (fail)
 go_loopw [7] (fun iv wr=>∃ r D,D≤B∧Seg w C u D iv r∧jy r s=jy l s∧wr=w) (fun iv _=>ptrN iv)
 case atStart=>exact⟨l,B,Nat.le_refl _,HS.out,rfl,rfl⟩
 case round=>
  obtain⟨r,D,hD,hs,hf,rfl⟩:=hrel;have HF:=hid hf;clear hf;cases r with
  | nil=>
    obtain⟨rfl,_⟩:=hs;rcases HU.out with rfl | ⟨g',cs,rfl,hg',hgb⟩
    · go_wp2_with (fail)
      go_ret;exact⟨by rw[←HF.out];rfl,rfl⟩
    · have hvs:=vsame wr g'
      go_wp2_with (fail);go_ret;exact⟨by rw[←HF.out];rfl,rfl⟩
  | cons x r=>
    obtain⟨g,t,rfl,h1,h2,h3,h6⟩:=hs;obtain⟨q0,q1,q2⟩:=node_cells h3;have HQ:=hid h3;have H6:=hid h6;have hgl:g<wr.heap.size:=by omega
    clear h6 h3;by_cases hx:x.name=s
    · have hd:=kU hx
      have hp:FndPost wr B (jy l s) (.returned (.pointer (some ⟨g,0,none⟩))):=by
       rw[←HF.out,jy,if_pos hx];exact⟨g,rfl,by omega,q1⟩
      have HP:=hid hp;clear hp;rcases HU.out with rfl | ⟨g',cs,rfl,hg',hgb⟩
      · go_wp2_with (fail)
        go_ret;exact⟨HP.out,rfl⟩
      · have hvn:=vneq wr (show g≠g' by omega) HQ.out hgb
        go_wp2_with (fail);go_ret;exact⟨HP.out,rfl⟩
    · have hd:=kV hx
      have HM:=hid (H6.out.lower HU.out);have HE:=hid (show jy r s=jy l s by rw[←HF.out,jy,if_neg hx]);rcases HU.out with rfl | ⟨g',cs,rfl,hg',hgb⟩
      · go_wp2_with (fail)
        go_roundw
        case rel=>exact⟨r,g,by omega,H6.out,HE.out,trivial⟩
        case measure=>exact HM.out
      · have hvn:=vneq wr (show g≠g' by omega) HQ.out hgb
        go_wp2_with (fail);go_roundw
        case rel=>exact⟨r,g,by omega,H6.out,HE.out,trivial⟩
        case measure=>exact HM.out
theorem vd.form {w:World} {C:Nat} {u:Value} (h:vd w C u):∃ p,u=.pointer p:=by
 rcases h with rfl | ⟨g,cs,rfl,_⟩
 · exact⟨_,rfl⟩
 · exact⟨_,rfl⟩
theorem take_rev {l pre:List Pa} {j:Nat} {x:Pa} (h:l[j]? =some x):(l.take (j+1)).reverse++pre=x :: ((l.take j).reverse++pre):=by
 rw[List.take_add_one,h];simp
set_option maxHeartbeats 1000000 in
theorem kz (w:World) (C D B:Nat) (u v:Value) (pre l:List Pa) (x:Value) (hD:D≤w.heap.size) (hB:B≤w.heap.size) (hU:vd w C u) (hC:C≤w.heap.size) (h:Seg w C u D v pre) (hl:SlP B w x l):
 Calls Tryz.prog 75 #[v,x] w fun e w'=>∃ v',e=.returned v'∧Seg w' C u w'.heap.size v' (l.reverse++pre)∧Below w.heap.size w w':=by
 obtain⟨p0,rfl⟩:=(h.fin hU).form;obtain⟨A,c,rfl,hn⟩:=hl.form;have HL:=hid hl;have HS:=hid (h.up hD);have HU:=hid hU;clear h hl hU;go_enter Tryz.func75,Tryz.ntmps75;go_wp2_with (fail)
 go_loopw [0,9] (fun v iv wr=>∃ j:Nat,j≤l.length∧iv=.int .i64 j∧Seg wr C u wr.heap.size v ((l.take j).reverse++pre)∧Below w.heap.size w wr) (fun _ iv _=>l.length-(intOf iv).toNat)
 case atStart=>exact⟨0,Nat.zero_le _,rfl,by simpa using HS.out,Below.refl _ _⟩
 case round=>
  obtain⟨j,hj,rfl,hs,hbw⟩:=hrel;have hsz:=hbw.size;have HUr:=hid (HU.out.keep (w':=wr) fun g hg _=>hbw.block g (by omega));obtain⟨p,rfl⟩:=(hs.fin HUr.out).form;have HSr:=hid hs;clear hs;by_cases hlt:j<l.length
  · obtain⟨y,hy⟩:∃ e,l[j]? =some e:=⟨_,List.getElem?_eq_getElem hlt⟩
    obtain⟨g,o,rfl,hg,q0,q1⟩:=(HL.out.below (hbw.mono hB) Zr).cells hy;have HY:=hid hy;have hgs:g<wr.heap.size:=by omega
    clear hy;go_wp2_with (fail);go_roundw
    case rel=>
     refine⟨j+1,by omega,by go_num,?_,(hbw.alloc hsz _).alloc (by simp;omega) _⟩;rw[take_rev HY.out];refine⟨wr.heap.size+1,_,rfl,by omega,by simp,?_,(HSr.out.below ((Zb.alloc Zr _).alloc (by simp) _)).up (by omega)⟩;have:=heap_alloc_new (wr.alloc (.cells #[.string y.name,.int .i64 y.type] 47)) (.cells #[.string y.name,.int .i64 y.type,.pointer p] 141);simpa using this
    case measure=>simp[intOf];omega
  · go_wp2_with (fail)
    go_ret;refine⟨_,rfl,?_,hbw⟩;have:=HSr.out;rwa [List.take_of_length_le (by omega)]at this
def ui (p:Pr):Prop:=∀ f ∈ p.funcs,f.params.length≤8∧∀ x ∈ f.params,x.type=1∨x.type=2
theorem few_of {p:Pr} (h:prOK p=true):ui p:=fun f hf=>by
 unfold prOK at h;rw[Bool.and_eq_true,List.all_eq_true,List.all_eq_true]at h;have h1:=h.2 f hf;unfold k8 at h1;simp only[Bool.and_eq_true,decide_eq_true_eq,List.all_eq_true]at h1;refine⟨h1.1.1.2,fun x hx=>?_⟩;have h2:=h1.1.2 x hx;unfold y6 yw at h2;simp only[Bool.and_eq_true,Bool.or_eq_true,decide_eq_true_eq,beq_iff_eq]at h2;exact h2.2
def SlI (B:Nat) (w:World) (v:Value) (l:List Int):Prop:=xF v l.length (xn 1 (fun (t:Int) g o=>CellB B w g o (.int .i64 t)) l)
theorem SlI.below {B B':Nat} {w w':World} {v:Value} {l:List Int} (h:SlI B w v l) (hb:Below B w w') (hB:B≤B'):SlI B' w' v l:=xF.imp h fun g o=>xn.imp (fun _ _ _ hc=>hc.below hb hB) l g o
theorem SlI.form {B:Nat} {w:World} {v:Value} {l:List Int} (h:SlI B w v l):∃ A cap,v=.slice A l.length cap∧l.length≤281474976710656:=by
 obtain⟨A,cap,hv,hn,_⟩:=h;exact⟨A,cap,hv,hn⟩
theorem SlI.cells {B:Nat} {w:World} {A:Option Addr} {n cap:Nat} {l:List Int} (h:SlI B w (.slice A n cap) l) {i:Nat} {t:Int} (hi:l[i]? =some t):
 ∃ (g o:Nat),A=some ⟨g,o,none⟩∧g<B∧w.cell? ⟨g,o+i,none⟩=some (.int .i64 t):=by
 obtain⟨g,o,hA,hr⟩:=xF.elem h rfl (by have:=(List.getElem?_eq_some_iff.1 hi).1;omega);have:=xn.at l g o i t hr hi;rw[Nat.mul_one]at this;exact⟨g,o,hA,this.1,this.2⟩
theorem xr (B:Nat) (w:World):SlI B w (.slice none 0 0) []:=⟨none,0,rfl,Nat.zero_le _,fun h=>absurd h (by simp)⟩
theorem rdI_of {B:Nat} {w:World} {g:Nat} (hg:g<B):∀ (l:List Int) (o:Nat),(∀ j t,l[j]? =some t→w.cell? ⟨g,o+j,none⟩=some (.int .i64 t))→xn 1 (fun (t:Int) g o=>CellB B w g o (.int .i64 t)) l g o
 | [],_,_=>trivial
 | t :: r,o,h=>⟨⟨hg,h 0 t rfl⟩,rdI_of hg r (o+1) fun j u hj=>by
     rw[show o+1+j=o+(j+1) by omega]
     exact h (j+1) u (by simpa using hj)⟩
theorem z7 {w w':World} {base:Nat} {e:TypeId} {size:Nat} {v:Value} {n:Nat} {xs:List Value} (h:w.ownsRow base e size v n xs) (hk:∀ g,v.ownBlock=some g→w'.heap[g]? =w.heap[g]?):w'.ownsRow base e size v n xs:=by
 refine⟨h.1,?_⟩;rcases h.2 with h0 | ⟨g,cap,cur,rfl,h1,h2,h3⟩
 · exact .inl h0
 · exact .inr ⟨g,cap,cur,rfl,h1,(hk g rfl).trans h2,h3⟩
theorem qT {w:World} {base:Nat} {e:TypeId} {size:Nat} {v:Value} {n:Nat} {xs:List Value} (h:w.ownsRow base e size v n xs):∃ A c,v=.slice A n c:=by
 rcases h.2 with⟨rfl,rfl⟩ | ⟨g,cap,cur,rfl,_⟩
 · exact⟨_,_,rfl⟩
 · exact⟨_,_,rfl⟩
theorem zM {w:World} {base:Nat} {e:TypeId} {size:Nat} {v:Value} {n:Nat} {xs:List Value} (h:w.ownsRow base e size v n xs) (g:Nat) (hg:v.ownBlock=some g):base≤g∧g<w.heap.size:=by
 rcases h.2 with⟨rfl,rfl⟩ | ⟨k,cap,cur,rfl,h1,h2,_⟩
 · cases hg
 · injection hg with hg
   subst hg;exact⟨h1,(Array.getElem?_eq_some_iff.1 h2).1⟩
theorem zv {w:World} {base:Nat} {e:TypeId} {size:Nat} {v:Value} {n:Nat} {xs:List Value} (h:w.ownsRow base e size v n xs) (o:Obj):(w.alloc o).ownsRow base e size v n xs:=
 z7 h fun g hg=>Below.heap_alloc w o g (zM h g hg).2
theorem ve (w:World) (cs:List Value) (T:TypeId):∀ j u,cs[j]? =some u→(w.alloc (.cells cs.toArray T)).cell? ((⟨w.heap.size,0,none⟩:Addr).add j)=some u:=fun j u hu=>by
 rw[show (⟨w.heap.size,0,none⟩:Addr).add j=⟨w.heap.size,j,none⟩ by unfold Addr.add;split <;> simp_all];exact(Lib.cell_of_heap (heap_alloc_new w _) j).trans (by simpa using hu)
theorem jH (w:World) (cs:List Value) (T:TypeId) (n:Nat) (hn:w.heap.size=n):∀ j u,cs[j]? =some u→(w.alloc (.cells cs.toArray T)).cell? ((⟨n,0,none⟩:Addr).add j)=some u:=hn ▸ ve w cs T
theorem tys_take {l:List Pa} {j:Nat} {x:Pa} (h:l[j]? =some x):((l.take j).map (·.type)).map (Value.int .i64)++[Value.int .i64 x.type]=((l.take (j+1)).map (·.type)).map (Value.int .i64):=by
 rw[List.take_add_one,h];simp
theorem own_ints {w:World} {base:Nat} {e:TypeId} {v:Value} {n:Nat} {l:List Int} (h:w.ownsRow base e 1 v n (l.map (Value.int .i64))) (hn:n=l.length) (hl:l.length≤281474976710656):SlI w.heap.size w v l:=by
 subst hn;rcases h.2 with⟨rfl,h0⟩ | ⟨g,cap,cur,rfl,h1,h2,h3,h4,h5,h6⟩
 · obtain rfl:l=[]:=List.eq_nil_of_length_eq_zero h0
   exact xr _ _
 · have hg:g<w.heap.size:=(Array.getElem?_eq_some_iff.1 h2).1
   refine⟨_,cap,rfl,hl,fun _=>⟨g,0,rfl,rdI_of hg l 0 fun j t hj=>?_⟩⟩;rw[Nat.zero_add,Lib.cell_of_heap h2]
   have h7:(cur.toList.take (l.length * 1))[j]? =some (Value.int .i64 t):=by
    rw[h6,List.getElem?_map,hj];rfl
   rw[List.getElem?_take]at h7;split at h7
   · simpa using h7
   · cases h7
theorem slI_at {w:World} {b B:Nat} {l:List Int} {T:TypeId} {fr:Nat × Nat} (hb:w.heap[b]? =some (.cells (l.map (Value.int .i64)).toArray T fr)) (hB:b<B) (hl:l.length≤281474976710656) (c:Nat):SlI B w (.slice (some ⟨b,0,none⟩) l.length c) l:=
 ⟨_,c,rfl,hl,fun _=>⟨b,0,rfl,rdI_of hB l 0 fun j t hj=>by
   rw[Nat.zero_add,Lib.cell_of_heap hb]
   simp[hj]⟩⟩
def jC (w:World) (o:List Int × Int × Int) (e:Ending) (w':World):Prop:=
 Below w.heap.size w w'∧∃ v,e=.returned (.tuple #[.agg #[v,.int .i64 o.2.1],.int .i64 o.2.2])∧SlI w'.heap.size w' v o.1∧∀ k,v.ownBlock=some k→w.heap.size≤k
def cfT (p:Pr) (s:ByteArray):List Int × Int × Int:=match xK p s with
 | some f=>(f.params.map (·.type),f.type,0)
 | none=>([],0,50)
theorem uj (B:Nat) (p:Pr) (s:ByteArray) (z:Int) (hz:jY (qN p.funcs s)=z) (v0 v1:Value) (w:World) (hB:B≤w.heap.size) (ha:SlA B w v0 p.arrays) (hf:SlF B w v1 p.funcs):
 Calls Tryz.prog 73 #[.agg #[v0,v1],.string s] w fun e w'=>e=.returned (.int .i64 z)∧Below w.heap.size w w':=hz ▸ place_any B p s v0 v1 w hB ha hf
theorem xP:(Tryz.prog.info? 3).map (fun i=>(i.zero,i.size,i.bytes))=some (some (.int .i64 0),1,8):=by kernel_rfl
theorem zB {w:World} {b:Nat} {o:Obj} (h:w.heap[b]? =some o):b<w.heap.size:=(Array.getElem?_eq_some_iff.1 h).1
theorem zE {w:World} {g:Nat} {c0 c1:Value} {T:TypeId} (h:w.heap[g]? =some (.cells #[c0,c1] T (0,0))):(w.cell? ⟨g,0,none⟩=some c0∧w.cell? ⟨g,1,none⟩=some c1)∧∀ o,w.frozen? ⟨g,o,none⟩=false:=
 ⟨⟨(Lib.cell_of_heap h 0).trans rfl,(Lib.cell_of_heap h 1).trans rfl⟩,fun o=>by simp[World.frozen?,h]⟩
theorem qg {W:World} {g:Nat} {d0 d1:Value} {T:TypeId} (hb:W.heap[g]? =some (.cells #[d0,d1] T (0,0))) (c0 c1:Value):((W.setCell ⟨g,0,none⟩ c0).setCell ⟨g,1,none⟩ c1).cell? ⟨g,0,none⟩=some c0∧((W.setCell ⟨g,0,none⟩ c0).setCell ⟨g,1,none⟩ c1).cell? ⟨g,1,none⟩=some c1:=
 (zE (Lib.heap_setCell_same (Lib.heap_setCell_same hb c0) c1)).1
theorem two_seta {W:World} {g:Nat} {d0 d1:Value} {T:TypeId} (hb:W.heap[g]? =some (.cells #[d0,d1] T (0,0))) (c0 c1:Value) (o:Obj):(((W.setCell ⟨g,0,none⟩ c0).setCell ⟨g,1,none⟩ c1).alloc o).cell? ⟨g,0,none⟩=some c0∧(((W.setCell ⟨g,0,none⟩ c0).setCell ⟨g,1,none⟩ c1).alloc o).cell? ⟨g,1,none⟩=some c1:=by
 have h:((W.setCell ⟨g,0,none⟩ c0).setCell ⟨g,1,none⟩ c1).heap[g]? =some (.cells #[c0,c1] T (0,0)):=Lib.heap_setCell_same (Lib.heap_setCell_same hb c0) c1;exact(zE ((Below.heap_alloc _ o g (zB h)).trans h)).1
theorem zm {W w:World} {g B:Nat} (h:Below B w W) (hg:B≤g) (c0 c1:Value):Below B w ((W.setCell ⟨g,0,none⟩ c0).setCell ⟨g,1,none⟩ c1):=(h.setCell (p:=⟨g,0,none⟩) hg _).setCell (p:=⟨g,1,none⟩) hg _
abbrev fmO (v:Value) (t:Int):Obj:=.cells #[v,.int .i64 t] 162
set_option maxHeartbeats 1000000 in
theorem callForm_no (B:Nat) (p:Pr) (s:ByteArray) (v0 v1:Value) (w:World) (hB:B≤w.heap.size) (ha:SlA B w v0 p.arrays) (hf:SlF B w v1 p.funcs) (hk:qN p.funcs s=none):
 Calls Tryz.prog 122 #[.agg #[v0,v1],.string s] w (jC w ([],0,50)):=by
 obtain⟨A0,c0,rfl,_⟩:=ha.form;obtain⟨A1,c1,rfl,hn⟩:=hf.form;have HA:=hid ha;have HF:=hid hf;have HK:=hid (show jY (qN p.funcs s)= -1 by rw[hk];rfl);clear ha hf hk;go_enter Tryz.func122,Tryz.ntmps122
 go_wp2_with (go_at_call 73;(with_reducible refine(uj B p s _ HK.out _ _ _ (by simp;omega) (HA.out.below ((Zb.alloc hB _).alloc (by simp;omega) _) Zr) (HF.out.below ((Zb.alloc hB _).alloc (by simp;omega) _) Zr)).mono ?_);rintro e w1 ⟨rfl,hb⟩
              have HX:=hid ((hb.block (w.heap.size+1) (by simp)).trans (show _=some (fmO (.slice none 0 0) 0) by simpa using heap_alloc_new (w.alloc (pgO A0 p.arrays.length c0 A1 p.funcs.length c1)) (fmO (.slice none 0 0) 0)));obtain⟨⟨q0,q1⟩,qz⟩:=zE HX.out;have HB1:=hid (show Below w.heap.size w w1 from((Zb.alloc Zr _).alloc (by simp) _).trans (hb.mono (by simp;omega)))
              clear hb)
 obtain⟨f0,f1⟩:=qg HX.out (.slice none 0 0) (.int .i64 0);refine bodyPost_ret (v:=.tuple #[.agg #[.slice none 0 0,.int .i64 0],.int .i64 50]) (by simp[results,Tryz.results122,go_sem,f0,f1]) rfl ?_;exact⟨zm HB1.out (by omega) _ _,_,rfl,xr _ _,fun k hk=>by cases hk⟩
set_option maxHeartbeats 1000000 in
theorem callForm_yes (B:Nat) (p:Pr) (s:ByteArray) (v0 v1:Value) (w:World) (hB:B≤w.heap.size) (ha:SlA B w v0 p.arrays) (hf:SlF B w v1 p.funcs) {k:Nat} {f:Fu} (hk:qN p.funcs s=some k) (hkf:p.funcs[k]? =some f) (h8:f.params.length≤8):
 Calls Tryz.prog 122 #[.agg #[v0,v1],.string s] w (jC w (f.params.map (·.type),f.type,0)):=by
 obtain⟨A0,c0,rfl,_⟩:=ha.form;obtain⟨A1,c1,rfl,hn⟩:=hf.form;obtain⟨i0,hi,hz0,hz1,hz2⟩:=info_parts xP;have HI:=hid (And.intro hi (And.intro hz0 (And.intro hz1 hz2)));have HA:=hid ha;have HF:=hid hf;have HK:=hid (show jY (qN p.funcs s)=(k:Int) by rw[hk];rfl);have HKF:=hid hkf;have hkl:k<p.funcs.length:=(List.getElem?_eq_some_iff.1 hkf).1;clear ha hf hk hkf hi hz0 hz1 hz2;go_enter Tryz.func122,Tryz.ntmps122
 go_wp2_with (go_at_call 73;(with_reducible refine(uj B p s _ HK.out _ _ _ (by simp;omega) (HA.out.below ((Zb.alloc hB _).alloc (by simp;omega) _) Zr) (HF.out.below ((Zb.alloc hB _).alloc (by simp;omega) _) Zr)).mono ?_);rintro e w1 ⟨rfl,hb⟩
              have HX:=hid ((hb.block (w.heap.size+1) (by simp)).trans (show _=some (fmO (.slice none 0 0) 0) by simpa using heap_alloc_new (w.alloc (pgO A0 p.arrays.length c0 A1 p.funcs.length c1)) (fmO (.slice none 0 0) 0)));have HP:=hid ((hb.block w.heap.size (by simp;omega)).trans (show _=some (pgO A0 p.arrays.length c0 A1 p.funcs.length c1) from(Below.heap_alloc _ _ _ (by simp)).trans (heap_alloc_new w _)));obtain⟨⟨p0,p1⟩,pz⟩:=zE HP.out;obtain⟨⟨q0,q1⟩,qz⟩:=zE HX.out;have hb1:Below w.heap.size w w1:=((Zb.alloc Zr _).alloc (by simp) _).trans (hb.mono (by simp;omega));have HB1:=hid hb1;obtain⟨g,o,v2,v3,rfl,hg,g0,g1,g2,g3,hp,hbo⟩:=(HF.out.below (hb1.mono hB) Zr).cells HKF.out;obtain⟨A2,c2,rfl,hn2⟩:=hp.form;have HP2:=hid hp;have hg1:g<w1.heap.size:=by have:=hb1.size;omega
              have hs1:w.heap.size+1<w1.heap.size:=by have:=hb.size;simp at this;omega
              have hs0:w.heap.size<w1.heap.size:=by omega
              have hkw1:g≠w1.heap.size:=by omega
              have hkw2:w1.heap.size≠g:=by omega
              clear hb hb1 hp hbo)
 go_loopw [30] (fun iv wr=>∃ (j:Nat) (v:Value),j≤f.params.length∧iv=.int .i64 j∧wr.heap[w1.heap.size]? =some (fmO v f.type)∧wr.ownsRow (w1.heap.size+1) 3 1 v j (((f.params.take j).map (·.type)).map (Value.int .i64))∧Below w1.heap.size w1 wr) (fun iv _=>f.params.length-(intOf iv).toNat)
 case atStart=>exact⟨0,_,Nat.zero_le _,rfl,heap_alloc_new _ _,World.ownsRow_nil _ _ _ _,Zb.alloc Zr _⟩
 case round=>
  obtain⟨j,v,hj,rfl,hx,ho,hbw⟩:=hrel;have hsz:=hbw.size;have hxl:=zB hx;obtain⟨A4,c4,rfl⟩:=qT ho;obtain⟨⟨r0,r1⟩,rz⟩:=zE hx;have HXR:=hid hx;have HO:=hid ho;have HBW:=hid hbw;by_cases hlt:j<f.params.length
  · obtain⟨y,hy⟩:∃ e,f.params[j]? =some e:=⟨_,List.getElem?_eq_getElem hlt⟩
    obtain⟨g',o',rfl,hg',y0,y1⟩:=(HP2.out.below (hbw.mono (show B≤w1.heap.size by omega)) Zr).cells hy;have HY:=hid hy;have hgs:g'<wr.heap.size:=by omega
    have HPRE:=hid (zv (zv ho (.cells #[.string y.name,.int .i64 y.type] 47)) (.cells #[.int .i64 y.type] 3));have HNW:=hid (jH (wr.alloc (.cells #[.string y.name,.int .i64 y.type] 47)) [.int .i64 y.type] 3 (wr.heap.size+1) (by simp));have HXW:=hid ((Below.heap_alloc (wr.alloc (.cells #[.string y.name,.int .i64 y.type] 47)) (.cells #[.int .i64 y.type] 3) w1.heap.size (by simp;omega)).trans ((Below.heap_alloc wr (.cells #[.string y.name,.int .i64 y.type] 47) w1.heap.size hxl).trans hx));clear hy hx ho hbw
    go_wp2_with (at_builtin;refine wpList_append_own _ rfl (.tmp 35) (.tmp 38) _ rfl (w1.heap.size+1) 3 i0 _ 1 8 Tryz.underlying145 HI.out.1 HI.out.2.1 HI.out.2.2.1 HI.out.2.2.2 rfl (by omega) (.slice A4 j c4) j _ rfl (by exact HPRE.out) ⟨wr.heap.size+1,0,none⟩ 1 1 [.int .i64 y.type] rfl rfl (by exact HNW.out) (by simp[Value.oneCell']) (by simp only[maxLen];omega) (by omega) (by simp;omega) ?_
                 intro v1 w5 hown1 hgr _;obtain⟨A5,c5,rfl⟩:=qT hown1;have HG1:=hid hgr;have HO1:=hid hown1;have HZ:=hid ((hgr.block w1.heap.size (by simp;omega) (fun e=>by have:=(zM HO.out _ e.symm).1;omega)).trans HXW.out);obtain⟨⟨z0,z1⟩,zz⟩:=zE HZ.out
                 clear hown1 hgr)
    go_roundw
    case rel=>
     have hbw2:Below w1.heap.size w1 w5:=((HBW.out.alloc hsz _).alloc (by simp;omega) _).grown HG1.out (by simp;omega) fun k hk=>by have:=(zM HO.out _ hk).1;omega
     refine⟨j+1,_,by omega,by go_num,Lib.heap_setCell_same HZ.out (.slice A5 (j+1) c5),?_,hbw2.setCell (p:=⟨w1.heap.size,0,none⟩) Zr _⟩;rw[←tys_take HY.out];exact z7 HO1.out fun k hk=>Below.heap_setCell w5 _ _ k (by have:=(zM HO1.out _ hk).1;show k≠w1.heap.size;omega)
    case measure=>simp[intOf];omega
  · have hjl:j=f.params.length:=by omega
    subst hjl;have HX2:=hid ((hbw.block (w.heap.size+1) (by omega)).trans HX.out);obtain⟨⟨t0,t1⟩,tz⟩:=zE HX2.out;have hwx:w.heap.size+1<wr.heap.size:=by omega
    clear hx ho hbw;go_wp2_with (fail);obtain⟨f0,f1⟩:=qg HX2.out (.slice A4 f.params.length c4) (.int .i64 f.type);refine bodyPost_ret (v:=.tuple #[.agg #[.slice A4 f.params.length c4,.int .i64 f.type],.int .i64 0]) (by simp[results,Tryz.results122,go_sem,f0,f1]) rfl ?_;refine⟨zm (HB1.out.trans (HBW.out.mono (by omega))) (by omega) _ _,_,rfl,?_,fun k hk=>by have:=(zM HO.out _ hk).1;omega⟩;have ho2:=HO.out;rw[List.take_of_length_le Zr]at ho2;refine own_ints (z7 ho2 fun k hk=>?_) (by simp) (by simp;omega);have:=(zM ho2 _ hk).1;exact(Below.heap_setCell _ _ _ k (by show k≠w.heap.size+1;omega)).trans (Below.heap_setCell _ _ _ k (by show k≠w.heap.size+1;omega))
theorem callForm_any (B:Nat) (p:Pr) (s:ByteArray) (v0 v1:Value) (w:World) (hB:B≤w.heap.size) (ha:SlA B w v0 p.arrays) (hf:SlF B w v1 p.funcs) (hp:ui p):
 Calls Tryz.prog 122 #[.agg #[v0,v1],.string s] w (jC w (cfT p s)):=by
 cases hk:qN p.funcs s with
 | none=>
   have e:cfT p s=([],0,50):=by unfold cfT xK;rw[hk];rfl
   rw[e];exact callForm_no B p s v0 v1 w hB ha hf hk
 | some k=>
   obtain⟨f,hkf,_,_⟩:=xO hk;have e:cfT p s=(f.params.map (·.type),f.type,0):=by unfold cfT xK;rw[hk,Option.bind_some,hkf]
   rw[e];exact callForm_yes B p s v0 v1 w hB ha hf hk hkf (hp f (List.mem_of_getElem? hkf)).1
def z9 (p:Pr) (vars:List Pa) (k op:Int) (s:ByteArray):List Int × Int × Int:=
 if k=1∨k=8 then ([],1,0)
 else if k=2 then ([],2,0)
 else if k=3 then (match z5 vars s with | some t=>([],t,0) | none=>([],0,50))
 else if k=4 then ([qj op],x9 op,0)
 else if k=5 then ([qj op,qj op],x9 op,0)
 else if k=6 then (if (qb p.arrays s).isSome then ([1],1,0) else ([],0,50))
 else cfT p s
abbrev xD (k op n:Int) (s:ByteArray) (A:Option Addr) (m c:Nat):Obj:=.cells #[.int .i64 k,.int .i64 op,.int .i64 n,.string s,.slice A m c] 116
theorem uk (B:Nat) (p:Pr) (s:ByteArray) (z:Int) (hz:jY (qb p.arrays s)=z) (v0 v1:Value) (w:World) (hB:B≤w.heap.size) (ha:SlA B w v0 p.arrays) (hf:SlF B w v1 p.funcs):
 Calls Tryz.prog 106 #[.agg #[v0,v1],.string s] w fun e w'=>e=.returned (.int .i64 z)∧Below w.heap.size w w':=hz ▸ array_any B p s v0 v1 w hB ha hf
abbrev three (w:World) (a b:Obj):World:=((w.alloc a).alloc b).alloc (fmO (.slice none 0 0) 0)
theorem zX {w:World} {B:Nat} (hB:B≤w.heap.size) (a b:Obj):Below B w (three w a b):=((Zb.alloc hB _).alloc (by simp;omega) _).alloc (by simp;omega) _
theorem jr (w:World) (a b:Obj):(three w a b).heap[w.heap.size+1+1]? =some (fmO (.slice none 0 0) 0):=by
 have:=heap_alloc_new ((w.alloc a).alloc b) (fmO (.slice none 0 0) 0);simpa using this
theorem two_cell {W:World} {g:Nat} (c0 c1:Value) {k o:Nat} (h:k≠g):((W.setCell ⟨g,0,none⟩ c0).setCell ⟨g,1,none⟩ c1).cell? ⟨k,o,none⟩=W.cell? ⟨k,o,none⟩:=
 (World.cell?_of_block (w:=W) ((Below.heap_setCell _ _ _ k (by show k≠g;exact h)).trans (Below.heap_setCell _ _ _ k (by show k≠g;exact h))))
def SlJ (g:Nat) (B:Nat) (w:World) (v:Value) (l:List Int):Prop:=xF v l.length (xn 1 (fun (t:Int) k o=>k≠g∧CellB B w k o (.int .i64 t)) l)
theorem SlI.apart {B:Nat} {w W:World} {v:Value} {l:List Int} {g L:Nat} (h:SlI B w v l) (hL:∀ k,v.ownBlock=some k→L≤k) (hg:g<L):SlJ g B w v l:=by
 obtain⟨A,c,rfl,hn,hF⟩:=h;refine⟨A,c,rfl,hn,fun hp=>?_⟩;obtain⟨k,o,rfl,hr⟩:=hF hp;have hk:L≤k:=hL k rfl;refine⟨k,o,rfl,?_⟩;clear hF hn hp hL
 induction l generalizing o with
 | nil=>trivial
 | cons t r ih=>exact⟨⟨by omega,hr.1⟩,ih (o+1) hr.2⟩
theorem SlJ.back {B B':Nat} {w W:World} {v:Value} {l:List Int} {g:Nat} (h:SlJ g B w v l) (hB:B≤B') (c0 c1:Value):SlI B' ((w.setCell ⟨g,0,none⟩ c0).setCell ⟨g,1,none⟩ c1) v l:=
 xF.imp h fun _ _=>xn.imp (fun _ _ _ hx=>⟨Nat.lt_of_lt_of_le hx.2.1 hB,(two_cell c0 c1 hx.1).trans hx.2.2⟩) l _ _
set_option linter.unusedSectionVars false
section
variable (B C D:Nat) (p:Pr) (vars:List Pa) (op n:Int) (s:ByteArray) (A:Option Addr) (m c:Nat) (v0 v1 v:Value) (w:World)
variable (hB:B≤w.heap.size) (hC:C≤w.heap.size) (hD:D≤w.heap.size) (ha:SlA B w v0 p.arrays) (hf:SlF B w v1 p.funcs) (hS:Seg w C (.pointer none) D v vars.reverse) (hp:ui p)
set_option maxHeartbeats 600000 in
include hB hC hD ha hf hS hp in
theorem formOf_num:Calls Tryz.prog 116 #[.agg #[v0,v1],v,.agg #[.int .i64 1,.int .i64 op,.int .i64 n,.string s,.slice A m c]] w (jC w ([],1,0)):=by
 obtain⟨A0,c0,rfl,_⟩:=ha.form;obtain⟨A1,c1,rfl,hn⟩:=hf.form;obtain⟨q,rfl⟩:=(hS.fin (vd.nil _ _)).form;have HA:=hid ha;have HF:=hid hf;have HS:=hid hS;have HPF:=hid hp;have HTB:=hid (fun k=>zX (B:=B) hB (pgO A0 p.arrays.length c0 A1 p.funcs.length c1) (xD k op n s A m c));have HTW:=hid (fun k=>zX (B:=w.heap.size) Zr (pgO A0 p.arrays.length c0 A1 p.funcs.length c1) (xD k op n s A m c));have HTA:=hid (fun k=>jr w (pgO A0 p.arrays.length c0 A1 p.funcs.length c1) (xD k op n s A m c));clear ha hf hS hp;go_enter Tryz.func116,Tryz.ntmps116;go_wp2_with (fail);refine bodyPost_ret (v:=.tuple #[.agg #[.slice none 0 0,.int .i64 (1)],.int .i64 0]) (by simp[results,Tryz.results116,go_sem]) rfl ?_;exact⟨(((Zb.alloc Zr _).alloc (by simp) _).alloc (by simp;omega) _),_,rfl,xr _ _,fun k hk=>by cases hk⟩
set_option maxHeartbeats 600000 in
include hB hC hD ha hf hS hp in
theorem formOf_read:Calls Tryz.prog 116 #[.agg #[v0,v1],v,.agg #[.int .i64 8,.int .i64 op,.int .i64 n,.string s,.slice A m c]] w (jC w ([],1,0)):=by
 obtain⟨A0,c0,rfl,_⟩:=ha.form;obtain⟨A1,c1,rfl,hn⟩:=hf.form;obtain⟨q,rfl⟩:=(hS.fin (vd.nil _ _)).form;have HA:=hid ha;have HF:=hid hf;have HS:=hid hS;have HPF:=hid hp;have HTB:=hid (fun k=>zX (B:=B) hB (pgO A0 p.arrays.length c0 A1 p.funcs.length c1) (xD k op n s A m c));have HTW:=hid (fun k=>zX (B:=w.heap.size) Zr (pgO A0 p.arrays.length c0 A1 p.funcs.length c1) (xD k op n s A m c));have HTA:=hid (fun k=>jr w (pgO A0 p.arrays.length c0 A1 p.funcs.length c1) (xD k op n s A m c));clear ha hf hS hp;go_enter Tryz.func116,Tryz.ntmps116;go_wp2_with (fail);refine bodyPost_ret (v:=.tuple #[.agg #[.slice none 0 0,.int .i64 (1)],.int .i64 0]) (by simp[results,Tryz.results116,go_sem]) rfl ?_;exact⟨(((Zb.alloc Zr _).alloc (by simp) _).alloc (by simp;omega) _),_,rfl,xr _ _,fun k hk=>by cases hk⟩
set_option maxHeartbeats 600000 in
include hB hC hD ha hf hS hp in
theorem formOf_truth:Calls Tryz.prog 116 #[.agg #[v0,v1],v,.agg #[.int .i64 2,.int .i64 op,.int .i64 n,.string s,.slice A m c]] w (jC w ([],2,0)):=by
 obtain⟨A0,c0,rfl,_⟩:=ha.form;obtain⟨A1,c1,rfl,hn⟩:=hf.form;obtain⟨q,rfl⟩:=(hS.fin (vd.nil _ _)).form;have HA:=hid ha;have HF:=hid hf;have HS:=hid hS;have HPF:=hid hp;have HTB:=hid (fun k=>zX (B:=B) hB (pgO A0 p.arrays.length c0 A1 p.funcs.length c1) (xD k op n s A m c));have HTW:=hid (fun k=>zX (B:=w.heap.size) Zr (pgO A0 p.arrays.length c0 A1 p.funcs.length c1) (xD k op n s A m c));have HTA:=hid (fun k=>jr w (pgO A0 p.arrays.length c0 A1 p.funcs.length c1) (xD k op n s A m c));clear ha hf hS hp;go_enter Tryz.func116,Tryz.ntmps116;go_wp2_with (fail);refine bodyPost_ret (v:=.tuple #[.agg #[.slice none 0 0,.int .i64 (2)],.int .i64 0]) (by simp[results,Tryz.results116,go_sem]) rfl ?_;exact⟨(((Zb.alloc Zr _).alloc (by simp) _).alloc (by simp;omega) _),_,rfl,xr _ _,fun k hk=>by cases hk⟩
set_option maxHeartbeats 600000 in
include hB hC hD ha hf hS hp in
theorem formOf_var_no (hv:z5 vars s=none):Calls Tryz.prog 116 #[.agg #[v0,v1],v,.agg #[.int .i64 3,.int .i64 op,.int .i64 n,.string s,.slice A m c]] w (jC w ([],0,50)):=by
 obtain⟨A0,c0,rfl,_⟩:=ha.form;obtain⟨A1,c1,rfl,hn⟩:=hf.form;obtain⟨q,rfl⟩:=(hS.fin (vd.nil _ _)).form;have HA:=hid ha;have HF:=hid hf;have HS:=hid hS;have HPF:=hid hp;have HTB:=hid (fun k=>zX (B:=B) hB (pgO A0 p.arrays.length c0 A1 p.funcs.length c1) (xD k op n s A m c));have HTW:=hid (fun k=>zX (B:=w.heap.size) Zr (pgO A0 p.arrays.length c0 A1 p.funcs.length c1) (xD k op n s A m c));have HTA:=hid (fun k=>jr w (pgO A0 p.arrays.length c0 A1 p.funcs.length c1) (xD k op n s A m c));have HV:=hid ((kh s vars).symm.trans hv);clear ha hf hS hp hv;go_enter Tryz.func116,Tryz.ntmps116
 go_wp2_with (go_at_call 91;(with_reducible refine(jg _ C D _ _ _ s (by simp;omega) (vd.nil _ _) (HS.out.below (zX hD (pgO A0 p.arrays.length c0 A1 p.funcs.length c1) (xD 3 op n s A m c)))).mono ?_);rintro e w1 ⟨hfp,rfl⟩
              have hfq:e=.returned (.pointer none):=by
               rw[HV.out]at hfp;exact hfp
              clear hfp
              subst hfq)
 refine bodyPost_ret (v:=.tuple #[.agg #[.slice none 0 0,.int .i64 (0)],.int .i64 50]) (by simp[results,Tryz.results116,go_sem]) rfl ?_;exact⟨(((Zb.alloc Zr _).alloc (by simp) _).alloc (by simp;omega) _),_,rfl,xr _ _,fun k hk=>by cases hk⟩
set_option maxHeartbeats 600000 in
include hB hC hD ha hf hS hp in
theorem formOf_var_yes (t:Int) (hv:z5 vars s=some t):Calls Tryz.prog 116 #[.agg #[v0,v1],v,.agg #[.int .i64 3,.int .i64 op,.int .i64 n,.string s,.slice A m c]] w (jC w ([],t,0)):=by
 obtain⟨A0,c0,rfl,_⟩:=ha.form;obtain⟨A1,c1,rfl,hn⟩:=hf.form;obtain⟨q,rfl⟩:=(hS.fin (vd.nil _ _)).form;have HA:=hid ha;have HF:=hid hf;have HS:=hid hS;have HPF:=hid hp;have HTB:=hid (fun k=>zX (B:=B) hB (pgO A0 p.arrays.length c0 A1 p.funcs.length c1) (xD k op n s A m c));have HTW:=hid (fun k=>zX (B:=w.heap.size) Zr (pgO A0 p.arrays.length c0 A1 p.funcs.length c1) (xD k op n s A m c));have HTA:=hid (fun k=>jr w (pgO A0 p.arrays.length c0 A1 p.funcs.length c1) (xD k op n s A m c));have HV:=hid ((kh s vars).symm.trans hv);clear ha hf hS hp hv;go_enter Tryz.func116,Tryz.ntmps116
 go_wp2_with (go_at_call 91;(with_reducible refine(jg _ C D _ _ _ s (by simp;omega) (vd.nil _ _) (HS.out.below (zX hD (pgO A0 p.arrays.length c0 A1 p.funcs.length c1) (xD 3 op n s A m c)))).mono ?_);rintro e w1 ⟨hfp,rfl⟩
              have hfq:∃ g,e=.returned (.pointer (some ⟨g,0,none⟩))∧g<D∧(three w (pgO A0 p.arrays.length c0 A1 p.funcs.length c1) (xD 3 op n s A m c)).cell? ⟨g,1,none⟩=some (.int .i64 t):=by
               rw[HV.out]at hfp;exact hfp
              clear hfp;obtain⟨g,rfl,hgD,hgc⟩:=hfq;have hgl:g<w.heap.size:=by omega
              have hn0:g≠w.heap.size+1+1:=by omega)
 refine bodyPost_ret (v:=.tuple #[.agg #[.slice none 0 0,.int .i64 (t)],.int .i64 0]) (by simp[results,Tryz.results116,go_sem]) rfl ?_;exact⟨(((Zb.alloc Zr _).alloc (by simp) _).alloc (by simp;omega) _),_,rfl,xr _ _,fun k hk=>by cases hk⟩
set_option maxHeartbeats 600000 in
include hB hC hD ha hf hS hp in
theorem formOf_one:Calls Tryz.prog 116 #[.agg #[v0,v1],v,.agg #[.int .i64 4,.int .i64 op,.int .i64 n,.string s,.slice A m c]] w (jC w ([qj op],x9 op,0)):=by
 obtain⟨A0,c0,rfl,_⟩:=ha.form;obtain⟨A1,c1,rfl,hn⟩:=hf.form;obtain⟨q,rfl⟩:=(hS.fin (vd.nil _ _)).form;have HA:=hid ha;have HF:=hid hf;have HS:=hid hS;have HPF:=hid hp;have HTB:=hid (fun k=>zX (B:=B) hB (pgO A0 p.arrays.length c0 A1 p.funcs.length c1) (xD k op n s A m c));have HTW:=hid (fun k=>zX (B:=w.heap.size) Zr (pgO A0 p.arrays.length c0 A1 p.funcs.length c1) (xD k op n s A m c));have HTA:=hid (fun k=>jr w (pgO A0 p.arrays.length c0 A1 p.funcs.length c1) (xD k op n s A m c));clear ha hf hS hp;go_enter Tryz.func116,Tryz.ntmps116;go_wp2_with (go_at_call 121;(with_reducible refine(ug op _).mono ?_);rintro e w1 ⟨rfl,rfl⟩);refine bodyPost_ret (v:=.tuple #[.agg #[.slice (some ⟨w.heap.size+1+1+1,0,none⟩) 1 1,.int .i64 (x9 op)],.int .i64 0]) (by simp[results,Tryz.results116,go_sem]) rfl ?_;refine⟨(((Zb.alloc Zr _).alloc (by simp) _).alloc (by simp;omega) _).alloc (by simp;omega) _,_,rfl,?_,fun k hk=>by injection hk with hk;subst hk;show w.heap.size≤w.heap.size+1+1+1;omega⟩;exact slI_at (l:=[qj op]) (T:=3) (fr:=(0,0)) (by have:=heap_alloc_new (((w.alloc (pgO A0 p.arrays.length c0 A1 p.funcs.length c1)).alloc (xD 4 op n s A m c)).alloc (fmO (.slice (some ⟨w.heap.size+1+1+1,0,none⟩) 1 1) (x9 op))) (.cells #[.int .i64 (qj op)] 3);simpa using this) (by simp) (by simp) 1
set_option maxHeartbeats 600000 in
include hB hC hD ha hf hS hp in
theorem formOf_two:Calls Tryz.prog 116 #[.agg #[v0,v1],v,.agg #[.int .i64 5,.int .i64 op,.int .i64 n,.string s,.slice A m c]] w (jC w ([qj op,qj op],x9 op,0)):=by
 obtain⟨A0,c0,rfl,_⟩:=ha.form;obtain⟨A1,c1,rfl,hn⟩:=hf.form;obtain⟨q,rfl⟩:=(hS.fin (vd.nil _ _)).form;have HA:=hid ha;have HF:=hid hf;have HS:=hid hS;have HPF:=hid hp;have HTB:=hid (fun k=>zX (B:=B) hB (pgO A0 p.arrays.length c0 A1 p.funcs.length c1) (xD k op n s A m c));have HTW:=hid (fun k=>zX (B:=w.heap.size) Zr (pgO A0 p.arrays.length c0 A1 p.funcs.length c1) (xD k op n s A m c));have HTA:=hid (fun k=>jr w (pgO A0 p.arrays.length c0 A1 p.funcs.length c1) (xD k op n s A m c));clear ha hf hS hp;go_enter Tryz.func116,Tryz.ntmps116;go_wp2_with (go_at_call 121;(with_reducible refine(ug op _).mono ?_);rintro e w1 ⟨rfl,rfl⟩);refine bodyPost_ret (v:=.tuple #[.agg #[.slice (some ⟨w.heap.size+1+1+1,0,none⟩) 2 2,.int .i64 (x9 op)],.int .i64 0]) (by simp[results,Tryz.results116,go_sem]) rfl ?_;refine⟨(((Zb.alloc Zr _).alloc (by simp) _).alloc (by simp;omega) _).alloc (by simp;omega) _,_,rfl,?_,fun k hk=>by injection hk with hk;subst hk;show w.heap.size≤w.heap.size+1+1+1;omega⟩;exact slI_at (l:=[qj op,qj op]) (T:=3) (fr:=(0,0)) (by have:=heap_alloc_new (((w.alloc (pgO A0 p.arrays.length c0 A1 p.funcs.length c1)).alloc (xD 5 op n s A m c)).alloc (fmO (.slice (some ⟨w.heap.size+1+1+1,0,none⟩) 2 2) (x9 op))) (.cells #[.int .i64 (qj op),.int .i64 (qj op)] 3);simpa using this) (by simp) (by simp) 2
set_option maxHeartbeats 600000 in
include hB hC hD ha hf hS hp in
theorem formOf_index_no (hk:qb p.arrays s=none):Calls Tryz.prog 116 #[.agg #[v0,v1],v,.agg #[.int .i64 6,.int .i64 op,.int .i64 n,.string s,.slice A m c]] w (jC w ([],0,50)):=by
 obtain⟨A0,c0,rfl,_⟩:=ha.form;obtain⟨A1,c1,rfl,hn⟩:=hf.form;obtain⟨q,rfl⟩:=(hS.fin (vd.nil _ _)).form;have HA:=hid ha;have HF:=hid hf;have HS:=hid hS;have HPF:=hid hp;have HTB:=hid (fun k=>zX (B:=B) hB (pgO A0 p.arrays.length c0 A1 p.funcs.length c1) (xD k op n s A m c));have HTW:=hid (fun k=>zX (B:=w.heap.size) Zr (pgO A0 p.arrays.length c0 A1 p.funcs.length c1) (xD k op n s A m c));have HTA:=hid (fun k=>jr w (pgO A0 p.arrays.length c0 A1 p.funcs.length c1) (xD k op n s A m c));have HK:=hid (show jY (qb p.arrays s)= -1 by rw[hk];rfl);clear ha hf hS hp hk;go_enter Tryz.func116,Tryz.ntmps116
 go_wp2_with (go_at_call 106;(with_reducible refine(uk B p s _ HK.out _ _ _ (by simp;omega) (HA.out.below (HTB.out 6) Zr) (HF.out.below (HTB.out 6) Zr)).mono ?_);rintro e w1 ⟨rfl,hb⟩
              have HX:=hid ((hb.block (w.heap.size+1+1) (by simp)).trans (HTA.out 6));obtain⟨⟨q0,q1⟩,qz⟩:=zE HX.out;have hs1:w.heap.size+1+1<w1.heap.size:=by have:=hb.size;simp at this;omega
              have HB1:=hid (show Below w.heap.size w w1 from(HTW.out 6).trans (hb.mono (by simp;omega)))
              clear hb)
 obtain⟨f0,f1⟩:=qg HX.out (.slice none 0 0) (.int .i64 (0));refine bodyPost_ret (v:=.tuple #[.agg #[.slice none 0 0,.int .i64 (0)],.int .i64 (50)]) (by simp[results,Tryz.results116,go_sem,f0,f1]) rfl ?_;refine⟨zm HB1.out (by omega) _ _,_,rfl,?_,?_⟩
 · exact xr _ _
 · exact fun k hk=>by cases hk
set_option maxHeartbeats 600000 in
include hB hC hD ha hf hS hp in
theorem formOf_index_yes (k:Nat) (hk:qb p.arrays s=some k):Calls Tryz.prog 116 #[.agg #[v0,v1],v,.agg #[.int .i64 6,.int .i64 op,.int .i64 n,.string s,.slice A m c]] w (jC w ([1],1,0)):=by
 obtain⟨A0,c0,rfl,_⟩:=ha.form;obtain⟨A1,c1,rfl,hn⟩:=hf.form;obtain⟨q,rfl⟩:=(hS.fin (vd.nil _ _)).form;have HA:=hid ha;have HF:=hid hf;have HS:=hid hS;have HPF:=hid hp;have HTB:=hid (fun k=>zX (B:=B) hB (pgO A0 p.arrays.length c0 A1 p.funcs.length c1) (xD k op n s A m c));have HTW:=hid (fun k=>zX (B:=w.heap.size) Zr (pgO A0 p.arrays.length c0 A1 p.funcs.length c1) (xD k op n s A m c));have HTA:=hid (fun k=>jr w (pgO A0 p.arrays.length c0 A1 p.funcs.length c1) (xD k op n s A m c));have HK:=hid (show jY (qb p.arrays s)=(k:Int) by rw[hk];rfl);clear ha hf hS hp hk;go_enter Tryz.func116,Tryz.ntmps116
 go_wp2_with (go_at_call 106;(with_reducible refine(uk B p s _ HK.out _ _ _ (by simp;omega) (HA.out.below (HTB.out 6) Zr) (HF.out.below (HTB.out 6) Zr)).mono ?_);rintro e w1 ⟨rfl,hb⟩
              have HX:=hid ((hb.block (w.heap.size+1+1) (by simp)).trans (HTA.out 6));obtain⟨⟨q0,q1⟩,qz⟩:=zE HX.out;have hs1:w.heap.size+1+1<w1.heap.size:=by have:=hb.size;simp at this;omega
              have HB1:=hid (show Below w.heap.size w w1 from(HTW.out 6).trans (hb.mono (by simp;omega)))
              clear hb)
 obtain⟨f0,f1⟩:=two_seta HX.out (.slice (some ⟨w1.heap.size,0,none⟩) 1 1) (.int .i64 (1)) (.cells #[.int .i64 1] 3);refine bodyPost_ret (v:=.tuple #[.agg #[.slice (some ⟨w1.heap.size,0,none⟩) 1 1,.int .i64 (1)],.int .i64 (0)]) (by simp[results,Tryz.results116,go_sem,f0,f1]) rfl ?_;refine⟨(zm HB1.out (by omega) _ _).alloc (by simp;omega) _,_,rfl,?_,?_⟩
 · exact slI_at (l:=[1]) (T:=3) (fr:=(0,0)) (by have:=heap_alloc_new ((w1.setCell ⟨w.heap.size+1+1,0,none⟩ (.slice (some ⟨w1.heap.size,0,none⟩) 1 1)).setCell ⟨w.heap.size+1+1,1,none⟩ (.int .i64 1)) (.cells #[.int .i64 1] 3);simpa using this) (by simp) (by simp) 1
 · exact fun k hk=>by injection hk with hk;subst hk;show w.heap.size≤w1.heap.size;omega
set_option maxHeartbeats 600000 in
include hB hC hD ha hf hS hp in
theorem formOf_call:Calls Tryz.prog 116 #[.agg #[v0,v1],v,.agg #[.int .i64 7,.int .i64 op,.int .i64 n,.string s,.slice A m c]] w (jC w (cfT p s)):=by
 obtain⟨A0,c0,rfl,_⟩:=ha.form;obtain⟨A1,c1,rfl,hn⟩:=hf.form;obtain⟨q,rfl⟩:=(hS.fin (vd.nil _ _)).form;have HA:=hid ha;have HF:=hid hf;have HS:=hid hS;have HPF:=hid hp;have HTB:=hid (fun k=>zX (B:=B) hB (pgO A0 p.arrays.length c0 A1 p.funcs.length c1) (xD k op n s A m c));have HTW:=hid (fun k=>zX (B:=w.heap.size) Zr (pgO A0 p.arrays.length c0 A1 p.funcs.length c1) (xD k op n s A m c));have HTA:=hid (fun k=>jr w (pgO A0 p.arrays.length c0 A1 p.funcs.length c1) (xD k op n s A m c));clear ha hf hS hp;go_enter Tryz.func116,Tryz.ntmps116
 go_wp2_with (go_at_call 122;(with_reducible refine(callForm_any B p s _ _ _ (by simp;omega) (HA.out.below (HTB.out 7) Zr) (HF.out.below (HTB.out 7) Zr) HPF.out).mono ?_);rintro e w1 ⟨hb,u,rfl,hI,hL⟩
              obtain⟨A2,c2,rfl,_⟩:=hI.form;have HI:=hid (hI.apart (W:=w1) (g:=w.heap.size+1+1) hL (by simp));have HX:=hid ((hb.block (w.heap.size+1+1) (by simp)).trans (HTA.out 7));obtain⟨⟨q0,q1⟩,qz⟩:=zE HX.out;have hs1:w.heap.size+1+1<w1.heap.size:=by have:=hb.size;simp at this;omega
              have HB1:=hid (show Below w.heap.size w w1 from(HTW.out 7).trans (hb.mono (by simp;omega)));have HL:=hid hL
              clear hb hI hL)
 obtain⟨f0,f1⟩:=qg HX.out (.slice A2 (cfT p s).1.length c2) (.int .i64 ((cfT p s).2.1));refine bodyPost_ret (v:=.tuple #[.agg #[.slice A2 (cfT p s).1.length c2,.int .i64 ((cfT p s).2.1)],.int .i64 ((cfT p s).2.2)]) (by simp[results,Tryz.results116,go_sem,f0,f1]) rfl ?_;refine⟨zm HB1.out (by omega) _ _,_,rfl,?_,?_⟩
 · exact HI.out.back (W:=w1) (by simp) _ _
 · exact fun k hk=>by have:=HL.out k hk;simp at this;omega
end
end Go.Proofs.YtfghofifjnbicaaGreatDoor
