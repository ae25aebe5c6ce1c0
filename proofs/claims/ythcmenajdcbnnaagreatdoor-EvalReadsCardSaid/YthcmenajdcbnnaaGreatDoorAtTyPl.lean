import Derived.Test.YthcmenajdcbnnaaGreatDoorAtTyFind
import Derived.BigQuiet
import Derived.Deep.RegionHeld3
set_option linter.unusedSimpArgs false
set_option linter.unusedVariables false
set_option maxRecDepth 100000
set_option maxHeartbeats 99000000
/- Expressions' types as package types reckons them: the form of a node, then its operands: of the plain answers. -/
namespace Go.Proofs.YthcmenajdcbnnaaGreatDoor
open Lib (hid)
open Go.RowKit
theorem fE_one{op n:Int}{name:ByteArray}{args:List Ex}(b:zj 4 op n name args.length=true):∃a,args=[a]:=by
 simp[zj]at b;exact List.length_eq_one_iff.1 b.2
theorem fE_two{op n:Int}{name:ByteArray}{args:List Ex}(b:zj 5 op n name args.length=true):∃a c,args=[a,c]:=by
 simp[zj]at b
 match args,b.2 with
 | [a,c],_=>exact⟨a,c,rfl⟩
theorem fE_index{op n:Int}{name:ByteArray}{args:List Ex}(b:zj 6 op n name args.length=true):∃a,args=[a]:=by
 simp[zj]at b;exact List.length_eq_one_iff.1 b.2
theorem yr{k op n:Int}{name:ByteArray}{m:Nat}(a:zj k op n name m=true):k=1\/k=2\/k=3\/k=4\/k=5\/k=6\/k=7\/k=8:=by
 by_cases b:k=1\/k=2\/k=3\/k=4\/k=5\/k=6\/k=7\/k=8
 .exact b
 .exfalso
  unfold zj at a;rw[if_neg I7,if_neg I7,if_neg I7,if_neg I7,if_neg I7,if_neg I7,if_neg I7,if_neg I7]at a;cases a
def FitN(a l:List Int)(j:Nat):Prop:=∀(i:Nat) t x,i<j->a[i]? =some t->l[i]? =some x->x=if t=0 then l.headD 0 else t
theorem FitN.zero(b l:List Int):FitN b l 0:=fun i t x a=>absurd a I7
theorem FitN.succ{c l:List Int}{j:Nat}{t x:Int}(d:FitN c l j)(h:c[j]? =some t)(k:l[j]? =some x)(e:x=if t=0 then l.headD 0 else t):FitN c l (j+1):=fun i m o p a b=>by
 by_cases g:i=j
 .subst g
  rw[h]at a;rw[k]at b;injection a with a;injection b with b;rw[<-a,<-b];exact e
 .exact d i m o I7 a b
theorem typEs_len{p:Pr}{vars:List Pa}:∀{args:List Ex} {l:List Int},qU p vars args=.inr l->l.length=args.length
 | [],l,a=>by
   rw[qU]at a;injection a with a;subst a;rfl
 | e::r,l,a=>by
   rw[qU]at a;split at a
   .cases a
   .cases hr:qU p vars r with
    | inl x=>rw[hr]at a;cases a
    | inr b=>
      rw[hr]at a;injection a with a;subst a;rw[List.length_cons,List.length_cons,typEs_len hr]
theorem typEs_app{p:Pr}{vars:List Pa}:∀(a b:List Ex) {l:List Int},qU p vars a=.inr l->qU p vars (a++b)=match qU p vars b with | .inl x=>.inl x | .inr d=>.inr (l++d)
 | [],b,l,c=>by
   rw[qU]at c;injection c with c;subst c;rw[List.nil_append];cases qU p vars b <;> rfl
 | e::r,b,l,c=>by
   rw[qU]at c;split at c
   .cases c
   .rename_i g
    cases hr:qU p vars r with
    | inl x=>rw[hr]at c;cases c
    | inr d=>
      rw[hr]at c;injection c with c;subst c;rw[List.cons_append,qU,if_neg g,typEs_app r b hr];cases qU p vars b <;> rfl
theorem typEs_one{p:Pr}{vars:List Pa}(e:Ex):qU p vars [e]=if(qx p vars e).2≠0 then .inl (qx p vars e).2 else .inr [(qx p vars e).1]:=by
 rw[qU,qU]
theorem typEs_take{p:Pr}{vars:List Pa}{args:List Ex}{j:Nat}{e:Ex}{l:List Int}(a:qU p vars (args.take j)=.inr l)(c:args[j]? =some e)(b:(qx p vars e).2=0):qU p vars (args.take (j+1))=.inr (l++[(qx p vars e).1]):=by
 rw[List.take_add_one,c,Option.toList_some,typEs_app _ _ a,typEs_one,if_neg Ih]
theorem typEs_bad{p:Pr}{vars:List Pa}{args:List Ex}{j:Nat}{e:Ex}{l:List Int}(b:qU p vars (args.take j)=.inr l)(g:args[j]? =some e)(c:(qx p vars e).2≠0):qU p vars args=.inl (qx p vars e).2:=by
 obtain⟨i,h⟩:=List.getElem?_eq_some_iff.1 g;have d:args.drop j=e::args.drop (j+1):=by rw[List.drop_eq_getElem_cons i,h]
 have a:args=args.take j++(e::args.drop (j+1)):=by rw[<-d,List.take_append_drop]
 rw[a,typEs_app _ _ b,qU,if_pos c]
section
variable {p:Pr} {vars:List Pa} {k op n:Int} {s:ByteArray} {args:List Ex}
theorem typE_mk:qx p vars (.mk k op n s args)=if yY p vars k s=false then(0,50)else if yl p k s args.length=false then(0,51)else match qU p vars args with | .inl e=>(0,e) | .inr l=>yZ p vars k op s l:=by
 rw[qx];cases qU p vars args <;> rfl
theorem kr(hf:zj k op n s args.length=true)(a:k=1\/k=2\/k=3\/k=8):args=[]:=by
 refine List.eq_nil_of_length_eq_zero ?_;rcases a with rfl|rfl|rfl|rfl <;>(simp[zj]at hf;first|exact hf.2|(simp_all))
theorem dev_name(hf:zj k op n s args.length=true)(a:(zh p vars k op s).2.2≠0):qx p vars (.mk k op n s args)=(0,(zh p vars k op s).2.2):=by
 rw[typE_mk];rcases yr hf with rfl|rfl|rfl|rfl|rfl|rfl|rfl|rfl
 .simp[zh]at a
 .simp[zh]at a
 .cases hv:kI vars s with
  | none=>simp[zh,yY,hv]
  | some t=>simp[zh,hv]at a
 .simp[zh]at a
 .simp[zh]at a
 .cases hv:zb p.arrays s with
  | none=>simp[zh,yY,hv]
  | some t=>simp[zh,hv]at a
 .cases hv:jF p.funcs s with
  | none=>simp[zh,yY,cfT,jH,hv]
  | some j=>
    obtain⟨f,b,_⟩:=yq hv;simp[zh,cfT,jH,hv,b]at a
 .simp[zh]at a
theorem dev_count(hf:zj k op n s args.length=true)(d:(zh p vars k op s).2.2=0)(b:(zh p vars k op s).1.length≠args.length):qx p vars (.mk k op n s args)=(0,51):=by
 rw[typE_mk];rcases yr hf with rfl|rfl|rfl|rfl|rfl|rfl|rfl|rfl
 .have:=kr hf I8;subst this;simp[zh]at b
 .have:=kr hf I8;subst this;simp[zh]at b
 .have:=kr hf I8
  subst this;cases hv:kI vars s with
  | none=>simp[zh,hv]at d
  | some t=>simp[zh,hv]at b
 .obtain⟨a,rfl⟩:=fE_one hf;simp[zh]at b
 .obtain⟨a,c,rfl⟩:=fE_two hf;simp[zh]at b
 .obtain⟨a,rfl⟩:=fE_index hf
  cases hv:zb p.arrays s with
  | none=>simp[zh,hv]at d
  | some t=>simp[zh,hv]at b
 .cases hv:jF p.funcs s with
  | none=>simp[zh,cfT,jH,hv]at d
  | some j=>
    obtain⟨f,e,_⟩:=yq hv;simp[zh,cfT,jH,hv,e]at b;simp[yY,yl,jH,hv,e];intro g;exact absurd g.symm b
 .have:=kr hf I8;subst this;simp[zh]at b
theorem dev_pre(hf:zj k op n s args.length=true)(a:(zh p vars k op s).2.2=0)(b:(zh p vars k op s).1.length=args.length):qx p vars (.mk k op n s args)=match qU p vars args with | .inl e=>(0,e) | .inr l=>yZ p vars k op s l:=by
 rw[typE_mk];rcases yr hf with rfl|rfl|rfl|rfl|rfl|rfl|rfl|rfl
 .simp[yY,yl]
 .simp[yY,yl]
 .cases hv:kI vars s with
  | none=>simp[zh,hv]at a
  | some t=>simp[yY,yl,hv]
 .simp[yY,yl]
 .simp[yY,yl]
 .cases hv:zb p.arrays s with
  | none=>simp[zh,hv]at a
  | some t=>simp[yY,yl,hv]
 .cases hv:jF p.funcs s with
  | none=>simp[zh,cfT,jH,hv]at a
  | some j=>
    obtain⟨f,c,_⟩:=yq hv;simp[zh,cfT,jH,hv,c]at b;simp[yY,yl,jH,hv,c,b]
 .simp[yY,yl]
theorem dev_arg(hf:zj k op n s args.length=true)(a:(zh p vars k op s).2.2=0)(b:(zh p vars k op s).1.length=args.length){e:Int}(ha:qU p vars args=.inl e):qx p vars (.mk k op n s args)=(0,e):=by
 rw[dev_pre hf a b,ha]
theorem fit_call{takes l:List Int}(e:l.length=takes.length)(c:∀t∈takes,t≠0):FitN takes l takes.length↔l=takes:=by
 constructor
 .intro d
  refine List.ext_getElem e fun i b a=>?_
  have:=d i takes[i] l[i] a (List.getElem?_eq_getElem a) (List.getElem?_eq_getElem b);rwa [if_neg (c _ (List.getElem_mem a))]at this
 .rintro rfl i t x g b a
  rw[b]at a;injection a with a;rw[<-a,if_neg (c t (List.mem_of_getElem? b))]
theorem dev_node(hp:Few p)(hf:zj k op n s args.length=true)(v:(zh p vars k op s).2.2=0)(y:(zh p vars k op s).1.length=args.length){l:List Int}(ha:qU p vars args=.inr l):
 (FitN (zh p vars k op s).1 l (zh p vars k op s).1.length->qx p vars (.mk k op n s args)=((zh p vars k op s).2.1,0))/\(¬FitN (zh p vars k op s).1 l (zh p vars k op s).1.length->qx p vars (.mk k op n s args)=(0,51)):=by
 have w:=typEs_len ha;rw[dev_pre hf v y,ha];dsimp only;rcases yr hf with rfl|rfl|rfl|rfl|rfl|rfl|rfl|rfl
 .refine⟨fun _=>by simp[zh,yZ],fun m=>absurd (fun i t x h=>?_) m⟩
  simp[zh]at h
 .refine⟨fun _=>by simp[zh,yZ],fun m=>absurd (fun i t x h=>?_) m⟩
  simp[zh]at h
 .cases hv:kI vars s with
  | none=>simp[zh,hv]at v
  | some t=>
    refine⟨fun _=>by simp[zh,yZ,hv],fun m=>absurd (fun i t x h=>?_) m⟩;simp[zh,hv]at h
 .obtain⟨a,rfl⟩:=fE_one hf
  match l,w with
  | [x],_=>
    refine⟨fun o=>?_,fun m=>?_⟩
    .have:=o 0 (jW op) x IP IP rfl
     simp only[List.headD_cons]at this;simp only[zh,yZ,List.all_cons,List.all_nil];by_cases b:jW op=0
     .simp[b]
     .rw[if_neg b]at this
      simp[this]
    .by_cases b:jW op=0\/x=jW op
     .exfalso
      refine m fun i t u h d g=>?_
      simp[zh]at h d;subst h;simp at d g;subst d g;split
      .rfl
      .rename_i r;exact b.resolve_left r
     .simp[zh,yZ,b]
 .obtain⟨a,c,rfl⟩:=fE_two hf
  match l,w with
  | [x,u],_=>
    refine⟨fun o=>?_,fun m=>?_⟩
    .have d:=o 0 (jW op) x IP IP rfl
     have g:=o 1 (jW op) u IP IP rfl;simp only[List.headD_cons]at d g;simp only[zh,yZ,List.all_cons,List.all_nil];by_cases b:jW op=0
     .rw[if_pos b]at g
      simp[b,g]
     .rw[if_neg b]at d g
      simp[d,g]
    .by_cases b:(jW op=0\/x=jW op)/\(jW op=0\/u=jW op)/\u=x
     .exfalso
      refine m fun i t z h d g=>?_
      simp[zh]at h d
      match i,h with
      | 0,_=>
        simp at d g;subst d g;split
        .rfl
        .rename_i r;exact b.1.resolve_left r
      | 1,_=>
        simp at d g;subst d g;split
        .simpa using b.2.2
        .rename_i r;exact b.2.1.resolve_left r
     .simp only[zh,yZ,List.all_cons,List.all_nil,List.headD_cons]
      simp;intro E;exact decide_eq_false fun B=>b ⟨E,B.1,B.2⟩
 .obtain⟨a,rfl⟩:=fE_index hf
  cases hv:zb p.arrays s with
  | none=>simp[zh,hv]at v
  | some q=>
    match l,w with
    | [x],_=>
      refine⟨fun o=>?_,fun m=>?_⟩
      .have:=o 0 1 x JZq JZq rfl
       simp at this;simp[zh,yZ,hv,this]
      .by_cases b:x=1
       .exfalso
        refine m fun i t u h d g=>?_
        simp[zh,hv]at h d;subst h;simp at d g;subst d g;simpa using b
       .simp[yZ,b]
 .cases hv:jF p.funcs s with
  | none=>simp[zh,cfT,jH,hv]at v
  | some j=>
    obtain⟨f,A,_⟩:=yq hv;have C:zh p vars 7 op s=(f.params.map (·.type),f.type,0):=by simp[zh,cfT,jH,hv,A]
    have F:yZ p vars 7 op s l=if l=f.params.map (·.type)then(f.type,0)else(0,51):=by simp[yZ,jH,hv,A]
    rw[C]at y
    have G:∀t∈f.params.map (·.type),t≠0:=fun t H=>by
     obtain⟨x,I,rfl⟩:=List.mem_map.1 H;rcases(hp f (List.mem_of_getElem? A)).2 x I with e|e <;> rw[e] <;> decide
    have D:=fit_call (w.trans y.symm) G;rw[C,F];exact⟨fun o=>by rw[if_pos (D.1 o)],fun m=>by rw[if_neg fun e=>m (D.2 e)]⟩
 .refine⟨fun _=>by simp[zh,yZ],fun m=>absurd (fun i t x h=>?_) m⟩
  simp[zh]at h
end
section
variable (B C D:Nat) (p:Pr) (vars:List Pa) (op n:Int) (s:ByteArray) (A:Option Addr) (m c:Nat) (v0 v1 v:Value) (w:World)
variable (hB:B<=w.heap.size) (hC:C<=w.heap.size) (hD:D<=w.heap.size) (ha:SlA B w v0 p.arrays) (hf:SlF B w v1 p.funcs) (hS:Seg w C (.pointer none) D v vars.reverse) (hp:Few p)
include hB hC hD ha hf hS hp in
theorem formOf_any(k:Int)(a:k=1\/k=2\/k=3\/k=4\/k=5\/k=6\/k=7\/k=8):Calls Tryz.prog 153 #[.agg #[v0,v1],v,.agg #[.int .i64 k,.int .i64 op,.int .i64 n,.string s,.slice A m c]] w (jO w (zh p vars k op s)):=by
 rcases a with rfl|rfl|rfl|rfl|rfl|rfl|rfl|rfl
 .exact formOf_num B C D p vars op n s A m c v0 v1 v w hB hC hD ha hf hS hp
 .exact formOf_truth B C D p vars op n s A m c v0 v1 v w hB hC hD ha hf hS hp
 .cases hv:kI vars s with
  | none=>
    have e:zh p vars 3 op s=([],0,50):=JZq
    rw[e];exact formOf_var_no B C D p vars op n s A m c v0 v1 v w hB hC hD ha hf hS hp hv
  | some t=>
    have e:zh p vars 3 op s=([],t,0):=JZq
    rw[e];exact formOf_var_yes B C D p vars op n s A m c v0 v1 v w hB hC hD ha hf hS hp t hv
 .exact formOf_one B C D p vars op n s A m c v0 v1 v w hB hC hD ha hf hS hp
 .exact formOf_two B C D p vars op n s A m c v0 v1 v w hB hC hD ha hf hS hp
 .cases hv:zb p.arrays s with
  | none=>
    have e:zh p vars 6 op s=([],0,50):=JZq
    rw[e];exact formOf_index_no B C D p vars op n s A m c v0 v1 v w hB hC hD ha hf hS hp hv
  | some t=>
    have e:zh p vars 6 op s=([1],1,0):=JZq
    rw[e];exact formOf_index_yes B C D p vars op n s A m c v0 v1 v w hB hC hD ha hf hS hp t hv
 .exact formOf_call B C D p vars op n s A m c v0 v1 v w hB hC hD ha hf hS hp
 .exact formOf_read B C D p vars op n s A m c v0 v1 v w hB hC hD ha hf hS hp
end
structure Env (B C:Nat) (p:Pr) (vars:List Pa) (v0 v1 v:Value) (w:World):Prop where
 hB:B<=w.heap.size
 hC:C<=w.heap.size
 ha:SlA B w v0 p.arrays
 hf:SlF B w v1 p.funcs
 hs:Seg w C (.pointer none) w.heap.size v vars.reverse
theorem Env.below{B C:Nat}{p:Pr}{vars:List Pa}{v0 v1 v:Value}{w w':World}(a:Env B C p vars v0 v1 v w)(b:Below w.heap.size w w'):Env B C p vars v0 v1 v w' where
 hB:=Nat.le_trans a.hB b.size
 hC:=Nat.le_trans a.hC b.size
 ha:=a.ha.below (b.mono a.hB) Zr
 hf:=a.hf.below (b.mono a.hB) Zr
 hs:=(a.hs.below b).up b.size
theorem Env.form{B C:Nat}{p:Pr}{vars:List Pa}{v0 v1 v:Value}{w:World}(e:Env B C p vars v0 v1 v w):∃a c b d q,v0=.slice a p.arrays.length c/\v1=.slice b p.funcs.length d/\v=.pointer q:=by
 obtain⟨a,c,g,_⟩:=e.ha.form;obtain⟨b,d,h,_⟩:=e.hf.form;obtain⟨q,i⟩:=(e.hs.fin (Fin.nil _ _)).form;exact⟨a,c,b,d,q,g,h,i⟩
def TyC(m:Nat):Prop:=∀(B C:Nat) (p:Pr) (vars:List Pa) (e:Ex) (r:Int × Int) (x v0 v1 v:Value) (w:World),vJ e m=true->Few p->qx p vars e=r->Env B C p vars v0 v1 v w->ExV B w e x->
 Calls Tryz.prog 136 #[.agg #[v0,v1],v,x] w fun e w'=>e=.returned (.tuple #[.int .i64 r.1,.int .i64 r.2])/\Below w.heap.size w w'
theorem TyC.call{m:Nat}(a:TyC m){B C:Nat}{p:Pr}{vars:List Pa}{e:Ex}{r:Int × Int}{x v0 v1 v:Value}{w:World}(b:vJ e m=true)(c:Few p)(d:qx p vars e=r)(g:Env B C p vars v0 v1 v w)(h:ExV B w e x):
 Calls Tryz.prog 136 #[.agg #[v0,v1],v,x] w fun e w'=>e=.returned (.tuple #[.int .i64 r.1,.int .i64 r.2])/\Below w.heap.size w w':=a B C p vars e r x v0 v1 v w b c d g h
theorem five_of{w:World}{g:Nat}{b c d e c4:Value}{T:TypeId}(a:w.heap[g]? =some (.cells #[b,c,d,e,c4] T (0,0))):w.cell? ⟨g,0,none⟩=some b/\w.cell? ⟨g,1,none⟩=some c/\w.cell? ⟨g,2,none⟩=some d/\w.cell? ⟨g,3,none⟩=some e/\w.cell? ⟨g,4,none⟩=some c4:=
 ⟨(Lib.cell_of_heap a 0).trans rfl,(Lib.cell_of_heap a 1).trans rfl,(Lib.cell_of_heap a 2).trans rfl,(Lib.cell_of_heap a 3).trans rfl,(Lib.cell_of_heap a 4).trans rfl⟩
theorem typeOf_name(B C:Nat)(p:Pr)(vars:List Pa)(k op n:Int)(s:ByteArray)(args:List Ex)(r:Int × Int)(E v0 v1 v:Value)(w:World)(g:zj k op n s args.length=true)(hp:Few p)(d:Env B C p vars v0 v1 v w)(D:xL B w E args)
 (M:List Int) (J o:Int) (b:zh p vars k op s=(M,J,o)) (K:o≠0) (z:qx p vars (.mk k op n s args)=r):
 Calls Tryz.prog 136 #[.agg #[v0,v1],v,.agg #[.int .i64 k,.int .i64 op,.int .i64 n,.string s,E]] w fun e w'=>e=.returned (.tuple #[.int .i64 r.1,.int .i64 r.2])/\Below w.heap.size w w':=by
 have y:=dev_name g (p:=p) (vars:=vars) (by rw[b];exact K);rw[z,b]at y;subst y;obtain⟨h,l,i,m,q,rfl,rfl,rfl⟩:=d.form;obtain⟨A,c,rfl,Q⟩:=D.form;have F:=hid d;have I:=hid hp;have H:=hid (yr g);have G:=hid b;clear d hp g b D z;go_enter Tryz.func136,Tryz.ntmps136
 go_wp2_with (go_at_call 153
              have a:=(F.out.below ((Below.refl w.heap.size w).alloc Zr (jT h p.arrays.length l i p.funcs.length m))).below ((Below.refl (w.alloc (jT h p.arrays.length l i p.funcs.length m)).heap.size _).alloc Zr (xw k op n s A args.length c))
              (with_reducible refine(formOf_any B C _ p vars op n s A args.length c _ _ _ _ a.hB a.hC Zr a.ha a.hf a.hs I.out k H.out).mono ?_)
              rw[G.out];rintro e N ⟨x,u,rfl,t,L⟩;obtain⟨O,P,rfl,_⟩:=t.form;have j:=hid (show Below w.heap.size w N from((Zb.alloc Zr _).alloc Ia _).trans (x.mono I9))
              clear x t L a)
 go_ret2
 exact⟨rfl,j.out.alloc QK _⟩
theorem typeOf_count(B C:Nat)(p:Pr)(vars:List Pa)(k op n:Int)(s:ByteArray)(args:List Ex)(r:Int × Int)(G v0 v1 v:Value)(w:World)(m:zj k op n s args.length=true)(hp:Few p)(j:Env B C p vars v0 v1 v w)(F:xL B w G args)
 (t:List Int) (M:Int) (b:zh p vars k op s=(t,M,0)) (y:t.length≠args.length) (E:qx p vars (.mk k op n s args)=r):
 Calls Tryz.prog 136 #[.agg #[v0,v1],v,.agg #[.int .i64 k,.int .i64 op,.int .i64 n,.string s,G]] w fun e w'=>e=.returned (.tuple #[.int .i64 r.1,.int .i64 r.2])/\Below w.heap.size w w':=by
 have D:=dev_count m (p:=p) (vars:=vars) (by rw[b]) (by rw[b];exact y);rw[E]at D;subst D;obtain⟨d,h,g,i,q,rfl,rfl,rfl⟩:=j.form;obtain⟨A,c,rfl,V⟩:=F.form;have I:=hid j;have L:=hid hp;have K:=hid (yr m);have J:=hid b;have W:(t.length:Int)≠(args.length:Int):=I7
 clear j hp m b F E y;go_enter Tryz.func136,Tryz.ntmps136
 go_wp2_with (go_at_call 153
              have a:=(I.out.below ((Below.refl w.heap.size w).alloc Zr (jT d p.arrays.length h g p.funcs.length i))).below ((Below.refl (w.alloc (jT d p.arrays.length h g p.funcs.length i)).heap.size _).alloc Zr (xw k op n s A args.length c))
              (with_reducible refine(formOf_any B C _ p vars op n s A args.length c _ _ _ _ a.hB a.hC Zr a.ha a.hf a.hs L.out k K.out).mono ?_)
              rw[J.out];rintro e x ⟨l,u,rfl,z,N⟩;obtain⟨O,P,rfl,_⟩:=z.form;have o:x.heap[w.heap.size+1]? =some (xw k op n s A args.length c):=(l.block (w.heap.size+1) Ia).trans (by simpa using heap_alloc_new (w.alloc (jT d p.arrays.length h g p.funcs.length i)) (xw k op n s A args.length c));obtain⟨Q,R,S,T,U⟩:=five_of o;have X:w.heap.size+1<x.heap.size:=zB o;have H:=hid (show Below w.heap.size w x from((Zb.alloc Zr _).alloc Ia _).trans (l.mono I9))
              clear l z N a o)
 go_ret2
 exact⟨rfl,H.out.alloc I7 _⟩
theorem typeOf_args(m:Nat)(ih:TyC m)(B C:Nat)(p:Pr)(vars:List Pa)(k op n:Int)(s:ByteArray)(args:List Ex)(r:Int × Int)(va v0 v1 v:Value)(w:World)(I:zj k op n s args.length=true)(hm:qC args m=true)(hp:Few p)(hE:Env B C p vars v0 v1 v w)(hx:xL B w va args)
 (b:List Int) (z:Int) (L:zh p vars k op s=(b,z,0)) (h0:b.length=args.length) (h8:args.length<=8) (hr:qx p vars (.mk k op n s args)=r):
 Calls Tryz.prog 136 #[.agg #[v0,v1],v,.agg #[.int .i64 k,.int .i64 op,.int .i64 n,.string s,va]] w fun e w'=>e=.returned (.tuple #[.int .i64 r.1,.int .i64 r.2])/\Below w.heap.size w w':=by
 have a0:=hid (fun e=>dev_arg (p:=p) (vars:=vars) I (by rw[L]) (by rw[L];exact h0) (e:=e));have ab:=hid (fun l=>dev_node (p:=p) (vars:=vars) hp I (by rw[L]) (by rw[L];exact h0) (l:=l));obtain⟨A0,c0,A1,c1,q,rfl,rfl,rfl⟩:=hE.form;obtain⟨A,c,rfl,hn⟩:=hx.form;obtain⟨i0,T,aJ,aK,aL⟩:=info_parts vk;have W:=hid (And.intro T (And.intro aJ (And.intro aK aL)));have HE:=hid hE;have HP:=hid hp;have HK:=hid (yr I);have O:=hid L;have HR:=hid hr;have HM:=hid hm;have HX:=hid hx;have ar:=hid ih;clear hE hp I L hx hr T aJ aK aL hm ih;go_enter Tryz.func136,Tryz.ntmps136
 go_wp2_with (first
  | (go_at_call 153
     have K:=(HE.out.below ((Below.refl w.heap.size w).alloc Zr (jT A0 p.arrays.length c0 A1 p.funcs.length c1))).below ((Below.refl (w.alloc (jT A0 p.arrays.length c0 A1 p.funcs.length c1)).heap.size _).alloc Zr (xw k op n s A args.length c))
     (with_reducible refine(formOf_any B C _ p vars op n s A args.length c _ _ _ _ K.hB K.hC Zr K.ha K.hf K.hs HP.out k HK.out).mono ?_)
     rw[O.out];rintro e d ⟨H,u,rfl,hI,hL⟩;obtain⟨A2,c2,rfl,_⟩:=hI.form;have M:d.heap[w.heap.size+1]? =some (xw k op n s A args.length c):=(H.block (w.heap.size+1) Ia).trans (by simpa using heap_alloc_new (w.alloc (jT A0 p.arrays.length c0 A1 p.funcs.length c1)) (xw k op n s A args.length c));have aj:d.heap[w.heap.size]? =some (jT A0 p.arrays.length c0 A1 p.funcs.length c1):=(H.block w.heap.size I9).trans ((Below.heap_alloc _ _ _ Ia).trans (heap_alloc_new w _));obtain⟨e0,e1,e2,e3,e4⟩:=five_of M;have bR:w.heap.size+1<d.heap.size:=zB M;have a8:=hid aj;have a9:=hid M;have a6:=hid (show SlI d.heap.size d (.slice A2 args.length c2) b by rw[<-h0];exact hI);have aZ:=hid (show Below w.heap.size w d from((Zb.alloc Zr _).alloc Ia _).trans (H.mono I9))
     clear H hI hL K M aj)
  | (at_make;refine wpList_make_full _ rfl _ _ 23 rfl (d.heap.size+1) 3 i0 (.int .i64 0) 1 Tryz.underlying23 W.out.1 W.out.2.1 W.out.2.2.1 .i64 .i64 _ _ args.length rfl rfl rfl rfl (by rw[W.out.2.2.2];omega) IX Ia ?_
     intro w2 J S;rw[zA]at J;have ak:=(S.block (w.heap.size+1) I9 Ia).trans ((Below.heap_alloc d (fmO (.slice A2 args.length c2) z) _ I7).trans a9.out);have aG:=(S.block w.heap.size I9 Ia).trans ((Below.heap_alloc d (fmO (.slice A2 args.length c2) z) _ I7).trans a8.out);have aH:=(S.block d.heap.size Ia Ia).trans (heap_alloc_new d (fmO (.slice A2 args.length c2) z));have bS:d.heap.size+1<w2.heap.size:=(jU J _ rfl).2;obtain⟨g0,g1,g2,g3,g4⟩:=five_of ak;have bF:=hid ak;have aw:=hid aG;have ba:=hid aH;have a2:=hid J;have an:=hid (show Below d.heap.size d w2 from(Zb.alloc Zr (fmO (.slice A2 args.length c2) z)).grown S Ia fun k I=>by cases I)
     clear J S ak aG aH))
 have bT:w.heap.size+1<w2.heap.size:=I7
 clear e0 e1 e2 e3 e4
 go_loopw [39] (fun iv wr=>∃(j:Nat) (l:List Int) (xs:List Value),j<=args.length/\iv=.int .i64 j/\l.length=j/\qU p vars (args.take j)=.inr l/\Below (d.heap.size+1) w2 wr/\wr.ownsRow (d.heap.size+1) 3 1 (.slice (some ⟨d.heap.size+1,0,none⟩) args.length args.length) args.length xs/\∀(i:Nat) (t:Int),l[i]? =some t->xs[i]? =some (Value.int .i64 t)) (fun iv _=>args.length-(intOf iv).toNat)
 case atStart=>exact⟨0,[],_,Nat.zero_le _,rfl,rfl,by rw[List.take_zero,qU],Below.refl _ _,a2.out,fun i t h=>IC⟩
 case round=>
  obtain⟨j,l,xs,hj,rfl,aB,aD,G,ho,aI⟩:=hrel;have bU:=G.size;have aF:Below w.heap.size w wr:=aZ.out.trans ((an.out.mono I7).trans (G.mono I7));obtain⟨r0,r1⟩:=(zO ((G.block w.heap.size I7).trans aw.out)).1;obtain⟨f0,f1⟩:=(zO ((G.block d.heap.size I7).trans ba.out)).1;have bG:=hid ((G.block (w.heap.size) I7).trans aw.out);have ao:=hid G;have F:=hid aF;have HO:=hid ho;have X:=hid aD;have ae:=hid aI;have aC:d.heap.size+1<wr.heap.size:=I7
  have bv:w.heap.size<wr.heap.size:=I7
  have bw:d.heap.size<wr.heap.size:=I7
  clear G aF ho aD aI;by_cases af:j<args.length
  .obtain⟨⟨k',V,n',s',R⟩,he⟩:∃e,args[j]? =some e:=⟨_,List.getElem?_eq_getElem af⟩
   obtain⟨g,o,v',rfl,hg,y0,y1,y2,y3,y4,ag⟩:=(HX.out.below (F.out.mono HE.out.hB) Zr).cells he;obtain⟨A4,c4,rfl,_⟩:=ag.form;have a1:=hid (show ExV B wr (.mk k' V n' s' R) (.agg #[.int .i64 k',.int .i64 V,.int .i64 n',.string s',.slice A4 R.length c4])from⟨_,rfl,(HX.out.below (F.out.mono HE.out.hB) Zr).range he,ag⟩);have bO:g<wr.heap.size:=by have:=HE.out.hB;omega
   obtain⟨⟨t,f⟩,aE⟩:∃r,qx p vars (.mk k' V n' s' R)=r:=⟨_,rfl⟩
   have P:=hid aE;have av:=hid (ue HM.out he);have ap:=hid he;obtain⟨u,hu⟩:∃u,xs[j]? =some u:=⟨_,List.getElem?_eq_getElem (by have:=HO.out.1;omega)⟩
   have HU:=hid hu;have aq:=hid ((HE.out.below F.out).below ((Below.refl wr.heap.size wr).alloc Zr (xw k' V n' s' A4 R.length c4)));have Y:=hid (a1.out.below ((Below.refl B wr).alloc (by have:=HE.out.hB;omega) (xw k' V n' s' A4 R.length c4)) Zr);clear ag aE he hu;by_cases az:f=0
   .subst az
    go_wp2_with (go_at_call 136
                 (with_reducible refine(ar.out.call av.out HP.out P.out aq.out Y.out).mono ?_)
                 rintro e w5 ⟨rfl,H⟩;have E:=vN (w':=w5) HO.out fun k I=>U2
                 have z0:w5.cell? ⟨d.heap.size+1,j,none⟩=some u:=(E.cellAt j I7).trans HU.out;have z1:w5.frozen? ⟨d.heap.size+1,j,none⟩=false:=E.frozenAt j;have a3:=hid E;have bj:wr.heap.size+1<=w5.heap.size:=by have:=H.size;simpa using this
                 have aa:=hid H
                 clear H E)
    go_roundw
    case rel=>
     have bg:Below (d.heap.size+1) w2 w5:=(ao.out.alloc I7 _).trans (aa.out.mono I9);have bk:=(a3.out.stored j (.int .i64 t)).1;refine⟨j+1,l++[t],_,I7,by go_num,by simp[aB],?_,bg.setCell (p:=⟨d.heap.size+1,j,none⟩) Zr _,bk,fun i x T=>?_⟩
     .have:=typEs_take X.out ap.out (by rw[P.out])
      rwa [P.out]at this
     .by_cases aA:i=j
      .subst aA
       rw[<-aB,List.getElem?_concat_length]at T;injection T with T;subst T;rw[List.getElem?_set_self (by have:=(List.getElem?_eq_some_iff.1 HU.out).1;exact this)]
      .rw[List.getElem?_set_ne (Ne.symm aA)]
       refine ae.out i x ?_;rw[List.getElem?_append_left]at T
       .exact T
       .have:=(List.getElem?_eq_some_iff.1 T).1
        simp at this;omega
    case measure=>simp[intOf];omega
   .go_wp2_with (go_at_call 136
                 (with_reducible refine(ar.out.call av.out HP.out P.out aq.out Y.out).mono ?_)
                 rintro e w5 ⟨rfl,H⟩;have E:=vN (w':=w5) HO.out fun k I=>U2
                 have z0:w5.cell? ⟨d.heap.size+1,j,none⟩=some u:=(E.cellAt j I7).trans HU.out;have z1:w5.frozen? ⟨d.heap.size+1,j,none⟩=false:=E.frozenAt j;have bj:wr.heap.size+1<=w5.heap.size:=by have:=H.size;simpa using this
                 have aa:=hid H
                 clear H E)
    go_ret2
    have D:=a0.out f (by have:=typEs_bad X.out ap.out (by rw[P.out];exact az);rwa [P.out]at this);rw[HR.out]at D;subst D;exact⟨rfl,(((F.out.alloc I7 _).trans (aa.out.mono I9))).setCell (p:=⟨d.heap.size+1,j,none⟩) (by show w.heap.size<=d.heap.size+1;omega) _⟩
  .have bi:j=args.length:=by omega
   subst bi;have ad:=hid (show qU p vars args=.inr l by have:=X.out;rwa [List.take_of_length_le Zr]at this);have a5:=hid (a6.out.below ((an.out.mono Zr).trans (ao.out.mono I7)) Zr);clear X hj af;go_wp2_with (fail)
   go_loopw [61] (fun iv bn=>∃i:Nat,i<=args.length/\iv=.int .i64 i/\FitN b l i/\bn=wr) (fun iv _=>args.length-(intOf iv).toNat)
   case atStart=>exact⟨0,Nat.zero_le _,rfl,FitN.zero _ _,rfl⟩
   case round=>
    obtain⟨i,T,rfl,Z,rfl⟩:=hrel;have N:=hid Z;clear Z;by_cases af:i<args.length
    .obtain⟨t,ht⟩:∃e,b[i]? =some e:=⟨_,List.getElem?_eq_getElem I7⟩
     obtain⟨x,hx⟩:∃e,l[i]? =some e:=⟨_,List.getElem?_eq_getElem I7⟩
     obtain⟨gt,ot,rfl,bP,t0⟩:=a5.out.cells ht;have aj:wr.cell? ⟨d.heap.size+1,i,none⟩=some (.int .i64 x):=(HO.out.cellAt i I7).trans (ae.out i x hx);have bq:gt<wr.heap.size:=I7
     have P:=hid ht;have Q:=hid hx;clear ht hx;by_cases ah:t=0
     .subst ah
      have hh:l[0]? =some (l.headD 0):=by
       cases l with
       | nil=>have:=Q.out;simp at this
       | cons a r=>rfl
      have M:wr.cell? ⟨d.heap.size+1,0,none⟩=some (.int .i64 (l.headD 0)):=(HO.out.cellAt 0 I7).trans (ae.out 0 _ hh);obtain⟨y,hy⟩:∃y,l.headD 0=y:=⟨_,rfl⟩
      rw[hy]at M;have HY:=hid hy;clear hh hy;by_cases U:x=y
      .subst U
       go_wp2_with (fail);go_roundw
       case rel=>exact⟨i+1,I7,by go_num,N.out.succ P.out Q.out (by rw[if_pos rfl,HY.out]),trivial⟩
       case measure=>simp[intOf];omega
      .go_wp2_with (fail)
       go_ret2
       have D:=(ab.out l ad.out).2 (by rw[O.out];intro hn;exact U (by have:=hn i 0 x (by show i<b.length;omega) P.out Q.out;rwa [if_pos rfl,HY.out]at this));rw[HR.out]at D;subst D;exact⟨rfl,F.out⟩
     .by_cases U:x=t
      .subst U
       go_wp2_with (fail);go_roundw
       case rel=>exact⟨i+1,I7,by go_num,N.out.succ P.out Q.out (by rw[if_neg ah]),trivial⟩
       case measure=>simp[intOf];omega
      .go_wp2_with (fail)
       go_ret2
       have D:=(ab.out l ad.out).2 (by rw[O.out];intro hn;exact U (by have:=hn i t x (by show i<b.length;omega) P.out Q.out;rwa [if_neg ah]at this));rw[HR.out]at D;subst D;exact⟨rfl,F.out⟩
    .have bh:i=args.length:=by omega
     subst bh;go_wp2_with (fail)
     go_ret2
     have D:=(ab.out l ad.out).1 (by rw[O.out];show FitN b l b.length;rw[h0];exact N.out);rw[HR.out,O.out]at D;subst D;exact⟨rfl,F.out⟩
theorem yc:∀m,TyC m
 | 0=>fun _ _ _ _ e _ _ _ _ _ _ b=>by
   obtain⟨k,op,n,s,args⟩:=e;rw[kf]at b;simp at b
 | m+1=>fun B C p vars e r x v0 v1 v w b hp j h D=>by
   obtain⟨k,op,n,s,args⟩:=e;rw[kf,Bool.and_eq_true,Bool.and_eq_true]at b;obtain⟨⟨_,hf⟩,z⟩:=b;rw[Nat.add_sub_cancel]at z;obtain⟨q,rfl,_,l⟩:=D;obtain⟨⟨d,g,t⟩,i⟩:∃o,zh p vars k op s=o:=⟨_,rfl⟩
   by_cases u:t=0
   .subst u
    by_cases y:d.length=args.length
    .have A:args.length<=8:=by
      rcases yr hf with rfl|rfl|rfl|rfl|rfl|rfl|rfl|rfl
      .rw[kr hf I8];decide
      .rw[kr hf I8];decide
      .rw[kr hf I8];decide
      .obtain⟨a,rfl⟩:=fE_one hf;simp
      .obtain⟨a,c,rfl⟩:=fE_two hf;simp
      .obtain⟨a,rfl⟩:=fE_index hf;simp
      .simp[zj]at hf;exact hf.2
      .rw[kr hf I8];decide
     exact typeOf_args m (yc m) B C p vars k op n s args r q v0 v1 v w hf z hp h l d g i y A j
    .exact typeOf_count B C p vars k op n s args r q v0 v1 v w hf hp h l d g i y j
   .exact typeOf_name B C p vars k op n s args r q v0 v1 v w hf hp h l d g t i u j
def kE(p:Pr)(vars:List Pa):List Ex->Int->Int
 | [],_=>0
 | e::r,t=>if kX p vars e t≠0 then kX p vars e t else kE p vars r t
abbrev ckO(v0 v1:Value)(g n:Int):Obj:=.cells #[v0,v1,.int .i64 g,.int .i64 n] 153
theorem zR{w:World}{g:Nat}{b c d e:Value}{T:TypeId}(a:w.heap[g]? =some (.cells #[b,c,d,e] T (0,0))):(w.cell? ⟨g,0,none⟩=some b/\w.cell? ⟨g,1,none⟩=some c/\w.cell? ⟨g,2,none⟩=some d/\w.cell? ⟨g,3,none⟩=some e)/\∀o,w.frozen? ⟨g,o,none⟩=false:=
 ⟨⟨(Lib.cell_of_heap a 0).trans rfl,(Lib.cell_of_heap a 1).trans rfl,(Lib.cell_of_heap a 2).trans rfl,(Lib.cell_of_heap a 3).trans rfl⟩,fun o=>QN⟩
theorem drop_at{α:Type}{l:List α}{j:Nat}{e:α}(a:l[j]? =some e):l.drop j=e::l.drop (j+1):=by
 obtain⟨c,b⟩:=List.getElem?_eq_some_iff.1 a;rw[List.drop_eq_getElem_cons c,b]
theorem xW(B C b:Nat)(p:Pr)(vars:List Pa)(l:List Ex)(want r:Int)(ap v0 v1 v:Value)(av n:Int)(w:World)(W:Env B C p vars v0 v1 v w)(X:w.heap[b]? =some (ckO v0 v1 av n))(aa:xL B w ap l)(ak:qC l 100=true)(hp:Few p)(al:kE p vars l want=r):
 Calls Tryz.prog 134 #[.pointer (some ⟨b,0,none⟩),ap,v,.int .i64 want] w fun e w'=>e=.returned (.int .i64 r)/\Below w.heap.size w w':=by
 obtain⟨L,U,M,V,q,rfl,rfl,rfl⟩:=W.form;obtain⟨A,c,rfl,aJ⟩:=aa.form;have aw:=zB X;have F:=hid W;have aq:=hid X;have af:=hid aa;have ar:=hid ak;have R:=hid hp;have au:=hid al;clear W X aa ak hp al;go_enter Tryz.func134,Tryz.ntmps134;go_wp2_with (fail)
 go_loopw [15] (fun iv wr=>∃j:Nat,j<=l.length/\iv=.int .i64 j/\kE p vars (l.drop j) want=r/\Below w.heap.size w wr) (fun iv _=>l.length-(intOf iv).toNat)
 case atStart=>exact⟨0,Nat.zero_le _,rfl,au.out,Below.refl _ _⟩
 case round=>
  obtain⟨j,aI,rfl,am,D⟩:=hrel;have ag:=hid am;have J:=hid D;have ad:=D.size;clear am;by_cases ax:j<l.length
  .obtain⟨⟨d,i,h,k,a⟩,G⟩:∃e,l[j]? =some e:=⟨_,List.getElem?_eq_getElem ax⟩
   obtain⟨g,o,v',rfl,E,aK,aL,aM,aN,aO,ab⟩:=(af.out.below (D.mono F.out.hB) Zr).cells G;obtain⟨m,u,rfl,_⟩:=ab.form;have aH:g<wr.heap.size:=by have:=F.out.hB;omega
   have Y:b<wr.heap.size:=I7
   obtain⟨⟨aD,aE,aF,aG⟩,_⟩:=zR ((D.block b aw).trans aq.out);have ah:ExV B wr (.mk d i h k a) (.agg #[.int .i64 d,.int .i64 i,.int .i64 h,.string k,.slice m a.length u]):=⟨_,rfl,(af.out.below (D.mono F.out.hB) Zr).range G,ab⟩
   have K:Below wr.heap.size wr (wr.alloc (xw d i h k m a.length u)).drew:=(Zb.alloc Zr _).drew;have P:=hid (ah.below (K.mono (by have:=F.out.hB;omega)) Zr);have O:=hid ((F.out.below D).below K);have T:=hid K;obtain⟨ay,az,aA,aB,aC⟩:=five_of (heap_alloc_new wr (xw d i h k m a.length u));obtain⟨⟨t,f⟩,ae⟩:∃r,qx p vars (.mk d i h k a)=r:=⟨_,rfl⟩
   have S:=hid ae;have Q:=hid (ue ar.out G);have ao:kX p vars (.mk d i h k a) want=if f=0 then(if t=want then 0 else 51)else f:=by unfold kX;rw[ae]
   have Z:=ag.out;rw[drop_at G,kE,ao]at Z;have N:=hid Z;clear ab ae G ah K ao Z D ay az aA aB aC;by_cases aj:f=0
   case pos=>
    subst aj;by_cases an:t=want
    .subst an
     go_wp2_with (fail)
     go_region_held3 (fun w'=>w'.cell? ⟨b,0,none⟩=some (.slice L p.arrays.length U)/\w'.cell? ⟨b,1,none⟩=some (.slice M p.funcs.length V)/\w'.cell? ⟨wr.heap.size,0,none⟩=some (.int .i64 d)/\w'.cell? ⟨wr.heap.size,1,none⟩=some (.int .i64 i)/\w'.cell? ⟨wr.heap.size,2,none⟩=some (.int .i64 h)/\w'.cell? ⟨wr.heap.size,3,none⟩=some (.string k)/\w'.cell? ⟨wr.heap.size,4,none⟩=some (.slice m a.length u))
      (first
        | (go_split_ands;refine⟨?_,?_,?_,?_,?_,?_,?_⟩ <;>(first|(rw[I];assumption)|(rw[H _ _ I7];simp[*];done)|(simp[*];done)))
        | go_keep)
      (first
        | (go_at_call 136
           (refine((yc 100).call (w:=(wr.alloc (xw d i h k m a.length u)).drew) Q.out R.out S.out O.out P.out).mono ?_)
           rintro e y ⟨rfl,x⟩;have H:∀g o,g<wr.heap.size+1->y.cell? ⟨g,o,none⟩=(wr.alloc (xw d i h k m a.length u)).cell? ⟨g,o,none⟩:=fun g o E=>x.cell (p:=⟨g,o,none⟩) Qw
           have z:=hid (show Below wr.heap.size wr y from T.out.trans (x.mono Qr));have I:∀o,y.cell? ⟨b,o,none⟩=wr.cell? ⟨b,o,none⟩:=fun o=>z.out.cell (p:=⟨b,o,none⟩) Y
           clear x))
     go_wp2_with (fail);go_roundw
     case rel=>exact⟨j+1,I7,by go_num,by have:=N.out;simpa using this,J.out.trans (z.out.mono ad)⟩
     case measure=>simp[intOf];omega
    .go_wp2_with (fail)
     go_region_held3 (fun w'=>w'.cell? ⟨b,0,none⟩=some (.slice L p.arrays.length U)/\w'.cell? ⟨b,1,none⟩=some (.slice M p.funcs.length V)/\w'.cell? ⟨wr.heap.size,0,none⟩=some (.int .i64 d)/\w'.cell? ⟨wr.heap.size,1,none⟩=some (.int .i64 i)/\w'.cell? ⟨wr.heap.size,2,none⟩=some (.int .i64 h)/\w'.cell? ⟨wr.heap.size,3,none⟩=some (.string k)/\w'.cell? ⟨wr.heap.size,4,none⟩=some (.slice m a.length u))
      (first
        | (go_split_ands;refine⟨?_,?_,?_,?_,?_,?_,?_⟩ <;>(first|(rw[I];assumption)|(rw[H _ _ I7];simp[*];done)|(simp[*];done)))
        | go_keep)
      (first
        | (go_at_call 136
           (refine((yc 100).call (w:=(wr.alloc (xw d i h k m a.length u)).drew) Q.out R.out S.out O.out P.out).mono ?_)
           rintro e y ⟨rfl,x⟩;have H:∀g o,g<wr.heap.size+1->y.cell? ⟨g,o,none⟩=(wr.alloc (xw d i h k m a.length u)).cell? ⟨g,o,none⟩:=fun g o E=>x.cell (p:=⟨g,o,none⟩) Qw
           have z:=hid (show Below wr.heap.size wr y from T.out.trans (x.mono Qr));have I:∀o,y.cell? ⟨b,o,none⟩=wr.cell? ⟨b,o,none⟩:=fun o=>z.out.cell (p:=⟨b,o,none⟩) Y
           clear x))
     go_wp2_with (fail);go_ret;exact⟨jY (by have:=N.out;simpa[an]using this),J.out.trans (z.out.mono ad)⟩
   case neg=>
    go_wp2_with (fail)
    go_region_held3 (fun w'=>w'.cell? ⟨b,0,none⟩=some (.slice L p.arrays.length U)/\w'.cell? ⟨b,1,none⟩=some (.slice M p.funcs.length V)/\w'.cell? ⟨wr.heap.size,0,none⟩=some (.int .i64 d)/\w'.cell? ⟨wr.heap.size,1,none⟩=some (.int .i64 i)/\w'.cell? ⟨wr.heap.size,2,none⟩=some (.int .i64 h)/\w'.cell? ⟨wr.heap.size,3,none⟩=some (.string k)/\w'.cell? ⟨wr.heap.size,4,none⟩=some (.slice m a.length u))
     (first
       | (go_split_ands;refine⟨?_,?_,?_,?_,?_,?_,?_⟩ <;>(first|(rw[I];assumption)|(rw[H _ _ I7];simp[*];done)|(simp[*];done)))
       | go_keep)
     (first
       | (go_at_call 136
          (refine((yc 100).call (w:=(wr.alloc (xw d i h k m a.length u)).drew) Q.out R.out S.out O.out P.out).mono ?_)
          rintro e y ⟨rfl,x⟩;have H:∀g o,g<wr.heap.size+1->y.cell? ⟨g,o,none⟩=(wr.alloc (xw d i h k m a.length u)).cell? ⟨g,o,none⟩:=fun g o E=>x.cell (p:=⟨g,o,none⟩) Qw
          have z:=hid (show Below wr.heap.size wr y from T.out.trans (x.mono Qr));have I:∀o,y.cell? ⟨b,o,none⟩=wr.cell? ⟨b,o,none⟩:=fun o=>z.out.cell (p:=⟨b,o,none⟩) Y
          clear x))
    go_wp2_with (fail);go_ret;exact⟨jY (by have:=N.out;simpa[aj]using this),J.out.trans (z.out.mono ad)⟩
  .go_wp2_with (fail)
   go_ret;have ai:=ag.out;rw[List.drop_of_length_le I7,kE]at ai;exact⟨jY ai,J.out⟩
theorem brkSs_take{l:List St}{j:Nat}{x:St}(b:l[j]? =some x):jM (l.take (j+1))=(jM (l.take j) || brkS x):=by
 induction l generalizing j with
 | nil=>simp at b
 | cons a r c=>
   cases j with
   | zero=>simp at b;subst b;rw[List.take_succ_cons,List.take_zero,List.take_zero,jM,jM];simp[jM]
   | succ j=>rw[List.take_succ_cons,List.take_succ_cons,jM,jM,c Ih,Bool.or_assoc]
theorem vq{l:List St}{j:Nat}{x:St}(b:l[j]? =some x):endSs (l.take (j+1))=(endSs (l.take j) || endS x):=by
 induction l generalizing j with
 | nil=>simp at b
 | cons a r c=>
   cases j with
   | zero=>simp at b;subst b;rw[List.take_succ_cons,List.take_zero,List.take_zero,endSs,endSs];simp[endSs]
   | succ j=>rw[List.take_succ_cons,List.take_succ_cons,endSs,endSs,c Ih,Bool.or_assoc]
theorem brkSs_at{l:List St}{j:Nat}{x:St}(b:l[j]? =some x)(c:brkS x=true):jM l=true:=by
 induction l generalizing j with
 | nil=>simp at b
 | cons a r d=>
   rw[jM];cases j with
   | zero=>simp at b;subst b;rw[c];rfl
   | succ j=>rw[d Ih,Bool.or_true]
theorem endSs_at{l:List St}{j:Nat}{x:St}(b:l[j]? =some x)(c:endS x=true):endSs l=true:=by
 induction l generalizing j with
 | nil=>simp at b
 | cons a r d=>
   rw[endSs];cases j with
   | zero=>simp at b;subst b;rw[c];rfl
   | succ j=>rw[d Ih,Bool.or_true]
def BkC(f:FuncId)(m:Nat):Prop:=∀(B:Nat) (l:List St) (b:Bool) (v:Value) (w:World),stsOK l m=true->jM l=b->B<=w.heap.size->SlS B w v l->Calls Tryz.prog f #[v] w fun e w'=>e=.returned (.bool b)/\Below w.heap.size w w'
theorem BkC.call{f:FuncId}{m:Nat}(a:BkC f m){B:Nat}{l:List St}{b:Bool}{v:Value}{w:World}(c:stsOK l m=true)(d:jM l=b)(g:B<=w.heap.size)(h:SlS B w v l):Calls Tryz.prog f #[v] w fun e w'=>e=.returned (.bool b)/\Below w.heap.size w w':=a B l b v w c d g h
def EnC(f:FuncId)(m:Nat):Prop:=∀(B:Nat) (l:List St) (b:Bool) (v:Value) (w:World),stsOK l m=true->endSs l=b->B<=w.heap.size->SlS B w v l->Calls Tryz.prog f #[v] w fun e w'=>e=.returned (.bool b)/\Below w.heap.size w w'
theorem EnC.call{f:FuncId}{m:Nat}(a:EnC f m){B:Nat}{l:List St}{b:Bool}{v:Value}{w:World}(c:stsOK l m=true)(d:endSs l=b)(g:B<=w.heap.size)(h:SlS B w v l):Calls Tryz.prog f #[v] w fun e w'=>e=.returned (.bool b)/\Below w.heap.size w w':=a B l b v w c d g h
theorem stsOK_el{l:List St}{m j:Nat}{x:St}(c:stsOK l m=true)(b:l[j]? =some x):stOK x m=true:=by
 induction l generalizing j with
 | nil=>simp at b
 | cons a r d=>
   rw[stsOK,Bool.and_eq_true]at c;cases j with
   | zero=>simp at b;subst b;exact c.1
   | succ j=>exact d c.2 Ih
abbrev kG(k a:Int)(s:ByteArray)(b c d:Value):Obj:=.cells #[.int .i64 k,.int .i64 a,.string s,b,c,d] 139
theorem breaks_step(m:Nat)(ae:∀m',m'+1=m->BkC 137 m'):BkC 137 m:=by
 intro B l b v w aa V hB N;obtain⟨A,c,rfl,aA⟩:=N.form;have ah:=hid N;have r:=hid V;have aj:=hid aa;have ag:=hid ae;clear N V aa ae;go_enter Tryz.func137,Tryz.ntmps137;go_wp2_with (fail)
 go_loopw [7] (fun iv wr=>∃j:Nat,j<=l.length/\iv=.int .i64 j/\jM (l.take j)=false/\Below w.heap.size w wr) (fun iv _=>l.length-(intOf iv).toNat)
 case atStart=>exact⟨0,Nat.zero_le _,rfl,by rw[List.take_zero,jM],Below.refl _ _⟩
 case round=>
  obtain⟨j,az,rfl,Z,u⟩:=hrel;have G:=hid Z;have d:=hid u;have ad:=u.size;clear Z;by_cases am:j<l.length
  .obtain⟨⟨k,y,name,args,thn,els⟩,x⟩:∃e,l[j]? =some e:=⟨_,List.getElem?_eq_getElem am⟩
   obtain⟨g,o,aE,aF,aG,rfl,ax,an,ao,ap,aq,ar,au,ab,O,P⟩:=(ah.out.below (u.mono hB) Zr).cells x;obtain⟨z,H,rfl,_⟩:=ab.form;obtain⟨C,I,rfl,_⟩:=O.form;obtain⟨D,J,rfl,_⟩:=P.form;have p:=hid x;have ay:g<wr.heap.size:=I7
   have h:=stsOK_el aj.out x;rw[kH]at h;simp only[Bool.and_eq_true,decide_eq_true_eq]at h;obtain⟨m',rfl⟩:∃m',m=m'+1:=⟨m-1,I7⟩
   rw[Nat.add_sub_cancel]at h;have F:=hid (ag.out m' rfl);have R:=hid h.1.2;have ai:=hid h.2;have K:Below B wr (wr.alloc (kG k y name (.slice z args.length H) (.slice C thn.length I) (.slice D els.length J))):=Zb.alloc I7 _;have S:=hid (O.below K Zr);have ak:=hid (P.below K Zr);obtain⟨T,W⟩:∃b,jM thn=b:=⟨_,rfl⟩
   obtain⟨U,X⟩:∃b,jM els=b:=⟨_,rfl⟩
   have E:=hid W;have Q:=hid X;clear x ab O P h K W X u;have i:=hid (show brkS (.mk k y name args thn els)=(decide (k=6) || (decide (k=4) && (T || U)))by rw[brkS,E.out,Q.out]);by_cases M:k=6
   .subst M
    go_wp2_with (fail);go_ret;exact⟨zC Qt,d.out.alloc ad _⟩
   .have aD:(k == 6)=false:=by simp[M]
    by_cases L:k=4
    .subst L
     cases T
     .cases U
      all_goals
       go_wp2_with (first
        | (go_at_call 137;(with_reducible refine(F.out.call R.out E.out I9 S.out).mono ?_);rintro e af ⟨rfl,a⟩;have q:=(Below.refl wr.heap.size wr).alloc Zr (kG 4 y name (.slice z args.length H) (.slice C thn.length I) (.slice D els.length J)) |>.trans (a.mono Ia);obtain⟨av,aw⟩:=qK a;have aB:wr.heap.size<af.heap.size:=Qe;have al:=hid (ak.out.below (a.mono I9) Zr);have t:=hid q;clear a q)
        | (go_at_call 137;(with_reducible refine(F.out.call ai.out Q.out I7 al.out).mono ?_);rintro e aH ⟨rfl,Y⟩))
      .go_roundw
       case rel=>exact⟨j+1,I7,by go_num,by rw[brkSs_take p.out,G.out,i.out];rfl,d.out.trans ((t.out.trans (Y.mono I7)).mono I7)⟩
       case measure=>simp[intOf];omega
      .go_ret
       exact⟨zC Qt,d.out.trans ((t.out.trans (Y.mono I7)).mono I7)⟩
     .go_wp2_with (go_at_call 137;(with_reducible refine(F.out.call R.out E.out I9 S.out).mono ?_);rintro e af ⟨rfl,a⟩;have q:=(Below.refl wr.heap.size wr).alloc Zr (kG 4 y name (.slice z args.length H) (.slice C thn.length I) (.slice D els.length J)) |>.trans (a.mono Ia);have t:=hid q;clear a q)
      go_ret;exact⟨zC Qt,d.out.trans (t.out.mono I7)⟩
    .have aC:(k == 4)=false:=by simp[L]
     go_wp2_with (fail);go_roundw
     case rel=>exact⟨j+1,I7,by go_num,by rw[brkSs_take p.out,G.out,i.out];simp[M,L],d.out.alloc ad _⟩
     case measure=>simp[intOf];omega
  .go_wp2_with (fail)
   go_ret;exact⟨zC (by rw[<-r.out,<-G.out,List.take_of_length_le I7]),d.out⟩
theorem breaks_all:∀m,BkC 137 m
 | 0=>breaks_step 0 fun _ a=>I7
 | m+1=>breaks_step (m+1) fun m' a=>by
   obtain rfl:m'=m:=I7
   exact breaks_all m'
end Go.Proofs.YthcmenajdcbnnaaGreatDoor
