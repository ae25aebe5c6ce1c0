import Derived.Test.YthcmenajdcbnnaaGreatDoorAtEvMg
import Derived.Stop.Asserts
set_option linter.unusedSimpArgs false
set_option linter.unusedVariables false
set_option maxRecDepth 100000
set_option maxHeartbeats 99000000
/- The developers' machine: any instruction; the run to its end. -/
namespace Go.Proofs.YthcmenajdcbnnaaGreatDoor
open Lib (hid)
open Go.RowKit Go.Maps
theorem OI{p:Prop}(h:p:=by
 dsimp only;cases s.arr[k]? with
 | none=>exact Rd.fin
 | some q=>exact Rd.ite Rd.ok (Rd.fin (s:=jq s 3))):p:=h
theorem OJ{p:Prop}(h:p:=by
 unfold xP at a;dsimp only at a;split at a
 .cases a
 .injection a with a;rw[<-a]):p:=h
theorem snoc_of{v:List Int}{x:Int}(h:v.getLast? =some x):v=v.dropLast++[x]:=by
 rcases List.eq_nil_or_concat v with rfl|⟨q,y,rfl⟩
 .cases h
 .rw[List.concat_eq_append]at *
  rw[qh]at h;injection h with h;rw[qV,h]
theorem take_drop_args(v:List Int)(a:Nat):v=v.take (v.length-a)++v.drop (v.length-a):=(List.take_append_drop _ _).symm
theorem mfE_nm{k op n:Int}{name:ByteArray}{a:Nat}(b:zj k op n name a=true)(c:k=3\/k=6\/k=7):vd name=true:=by
 unfold zj at b;rcases c with rfl|rfl|rfl <;> simp at b <;> simp[b]
theorem uI{k op n:Int}{name:ByteArray}{a:Nat}(b:zj k op n name a=true)(c:k=1\/k=2\/k=3\/k=8):a=0:=by
 unfold zj at b;rcases c with rfl|rfl|rfl|rfl <;> simp at b <;> omega
theorem idx_lt{p:Pr}{name:ByteArray}{k:Nat}(a:zb p.arrays name=some k):k<p.arrays.length:=by
 have c:∀(l:List Ar) (k:Nat),zb l name=some k->k<l.length:=by
  intro l
  induction l with
  | nil=>intro k a;cases a
  | cons x r b=>
    intro k a;rw[zb]at a;split at a
    .injection a with a;subst a;exact Nat.succ_pos _
    .cases hr:zb r name with
     | none=>rw[hr]at a;cases a
     | some j=>rw[hr]at a;injection a with a;have a:j+1=k:=a;have:=b j hr;rw[List.length_cons];omega
 exact c _ _ a
theorem MW.arr{G:Gm}{τ:Nat->Lb}{w:World}{m:Vm}(h:MW G τ w m):m.s.arr.length=G.p.arrays.length:=by
 obtain⟨_,_,_,_,h⟩:=h;obtain⟨_,h⟩:=h.arr;exact h.len
theorem mapply_any{G:Gm}{τ:Nat->Lb}{w:World}{m:Vm}(i:MW G τ w m){v:Value}{k op n:Int}{name:ByteArray}{args:List Ex}(o:PtE G.B w v (.mk k op n name args)){c:Fr}{r:List Fr}(I:m.cs=c::r)(M:m.v.length<=1000000000)(u:m.s.cost+1+m.s.fuel<=1000000000)
 (e:vmApp G.p k op n name args.length m.s m.v c r≠.bad):
 Calls Tryz.prog 94 #[.pointer (some ⟨G.b,0,none⟩),v] w (VOut G w (vmApp G.p k op n name args.length m.s m.v c r)):=by
 obtain⟨s,vs,O⟩:=m;dsimp only at I M u e ⊢;subst I;unfold vmApp at e ⊢;by_cases E:vs.length<args.length\/zj k op n name args.length=false
 .rw[if_pos E]at e;exact absurd rfl e
 rw[if_neg E]at e ⊢
 have g:zj k op n name args.length=true:=by
  cases hx:zj k op n name args.length with
  | true=>rfl
  | false=>exact absurd (.inr hx) E
 have Q:args.length<=vs.length:=I7
 have f:=take_drop_args vs args.length;have L:(vs.drop (vs.length-args.length)).length=args.length:=by rw[List.length_drop];omega
 have C:(vs.take (vs.length-args.length)).length<=1000000000:=IH
 generalize vs.take (vs.length-args.length)=q at *;generalize vs.drop (vs.length-args.length)=l at *;rcases fmE_kind g with rfl|rfl|rfl|rfl|rfl|rfl|rfl|rfl
 .have A:=uI g (.inl rfl)
  rw[if_neg I8,if_neg IT,evNode_lit _ _ _ _ _ _ _ _ (.inl rfl)]at *;have y:l=[]:=List.eq_nil_of_length_eq_zero I7;subst y;rw[List.append_nil]at f;subst f;exact mapply_lit i o (.inl rfl) Qj
 .have A:=uI g (.inr (.inl rfl))
  rw[if_neg I8,if_neg IT,evNode_lit _ _ _ _ _ _ _ _ (.inr rfl)]at *;have y:l=[]:=List.eq_nil_of_length_eq_zero I7;subst y;rw[List.append_nil]at f;subst f;exact mapply_lit i o (.inr rfl) Qj
 .have A:=uI g (.inr (.inr (.inl rfl)))
  have y:l=[]:=List.eq_nil_of_length_eq_zero I7;subst y;rw[List.append_nil]at f;subst f;rw[if_neg I8]at e ⊢;cases hev:kB c.vs name with
  | none=>rw[if_pos (.inl ⟨rfl,hev⟩)]at e;exact absurd rfl e
  | some j=>
    rw[if_neg (by rintro(⟨_,d⟩|⟨d,_⟩) <;> cases d),evNode_var];exact mapply_var i o rfl hev (yh (mfE_nm g (.inl rfl))) Qj
 .have A:=(fmE_len g).1 (.inl rfl)
  rw[if_neg I8,if_neg IT,evNode_one];obtain⟨a,rfl⟩:=lst1 (l:=l) I7;exact mapply_one i o f C u
 .have A:=(fmE_len g).2 rfl
  rw[if_neg I8,if_neg IT,evNode_two];obtain⟨a,b,rfl⟩:=lst2 (l:=l) I7;have J:vs=q++[a]++[b]:=by rw[f,List.append_assoc];rfl
  rw[show([a,b]:List Int).getD 1 0=b from rfl,show([a,b]:List Int).getD 0 0=a from rfl];by_cases D:qj op b=true
  .rw[if_pos D]
   exact mapply_two_yes i o J C D u
  .rw[if_neg D]
   exact mapply_two_no i o J C (by simpa using D) u
 .have A:=(fmE_len g).1 (.inr rfl)
  rw[if_neg I8]at e ⊢;obtain⟨a,rfl⟩:=lst1 (l:=l) I7;cases hk:zb G.p.arrays name with
  | none=>rw[if_pos (.inr ⟨rfl,hk⟩)]at e;exact absurd rfl e
  | some z=>
    rw[if_neg (by rintro(⟨d,_⟩|⟨_,d⟩) <;> cases d),evNode_idx];have D:=idx_lt hk;have P:s.arr.length=G.p.arrays.length:=i.arr;obtain⟨la,F⟩:∃la,s.arr[z]? =some la:=⟨_,List.getElem?_eq_getElem I7⟩
    rw[evIdx_is hk (show(zT s).arr[z]? =some la from F)];by_cases t:0<=a/\a<(la.length:Int)
    .rw[show([a]:List Int).getD 0 0=a from rfl,if_pos t]
     exact mapply_idx_yes i o f C hk F (yh (mfE_nm g (.inr (.inl rfl)))) t u
    .rw[show([a]:List Int).getD 0 0=a from rfl,if_neg t]
     exact mapply_idx_no i o f C hk F (yh (mfE_nm g (.inr (.inl rfl)))) t u
 .rw[if_pos rfl]at e ⊢
  cases hfu:jH G.p name with
  | none=>rw[hfu]at e;exact absurd rfl e
  | some K=>
    rw[hfu]at e;dsimp only at e ⊢;by_cases H:K.params.length=args.length
    .rw[if_pos H]
     exact mapply_call i o f C hfu (L.trans H.symm) (yh (mfE_nm g (.inr (.inr rfl)))) u
    .rw[if_neg H]at e;exact absurd rfl e
 .have A:=uI g (.inr (.inr (.inr rfl)))
  have y:l=[]:=List.eq_nil_of_length_eq_zero I7;subst y;rw[List.append_nil]at f;subst f;rw[if_neg I8,if_neg IT,evNode_read];unfold xR;cases t:s.inp with
  | nil=>
    rw[show(zT s).inp=[]from t];exact mapply_read_no i o t u
  | cons x N=>
    rw[show(zT s).inp=x::N from t];exact mapply_read_yes i o t Qj u
theorem mfinish_any{G:Gm}{τ:Nat->Lb}{w:World}{m:Vm}(f:MW G τ w m){v:Value}{k N:Int}{name:ByteArray}{args:List Ex}{thn els:List St}(n:PtS G.B w v (.mk k N name args thn els)){c:Fr}{r:List Fr}(C:m.cs=c::r)(L:m.v.length<=1000000000)(M:c.vs.length<=2000000000)(u:m.s.cost+1+m.s.fuel<=1000000000)
 (a:vmFin G.p k name m.s m.v c r≠.bad):
 Calls Tryz.prog 95 #[.pointer (some ⟨G.b,0,none⟩),v] w (VOut G w (vmFin G.p k name m.s m.v c r)):=by
 obtain⟨s,vs,O⟩:=m;dsimp only at C L u a ⊢;subst C;unfold vmFin at a ⊢;cases hlast:vs.getLast? with
 | none=>rw[hlast]at a;exact absurd rfl a
 | some x=>
   rw[hlast]at a;dsimp only at a ⊢;have l:=snoc_of hlast;have g:vs.dropLast.length<=1000000000:=QB
   generalize vs.dropLast=q at *;by_cases y:k<=3/\vd name=false
   .rw[if_pos y]at a;exact absurd rfl a
   rw[if_neg y]at a ⊢
   have t:k<=3->name.size<=maxLen:=fun e=>yh (by
    cases hx:vd name with
    | true=>rfl
    | false=>exact absurd ⟨e,hx⟩ y)
   by_cases E:k=1
   .subst E
    rw[if_pos rfl];exact mfin_let f n l g rfl (t I8) M
   rw[if_neg E]at a ⊢;by_cases H:k=2
   .subst H
    rw[if_pos rfl]at a ⊢;cases hev:kB c.vs name with
    | none=>rw[if_pos hev]at a;exact absurd rfl a
    | some j=>
      rw[if_neg (by first|(intro e;cases e;done)|(rw[hev];intro e;cases e))];exact mfin_set f n l g rfl (t I8) hev
   rw[if_neg H]at a ⊢;by_cases I:k=3
   .subst I
    rw[if_pos rfl]at a ⊢;cases hl2:q.getLast? with
    | none=>rw[hl2]at a;exact absurd rfl a
    | some i=>
      rw[hl2]at a;dsimp only at a ⊢;have D:=snoc_of hl2;cases hk:zb G.p.arrays name with
      | none=>rw[if_pos hk]at a;exact absurd rfl a
      | some z=>
        rw[if_neg (by first|(intro e;cases e;done)|(rw[hk];intro e;cases e))];have Q:=idx_lt hk;have P:s.arr.length=G.p.arrays.length:=f.arr;obtain⟨la,A⟩:∃la,s.arr[z]? =some la:=⟨_,List.getElem?_eq_getElem I7⟩
        rw[evPut_is hk (show(zT s).arr[z]? =some la from A)];by_cases o:0<=i/\i<(la.length:Int)
        .rw[if_pos o]
         exact mfin_put_yes f n l g D hk A (t I8) u o
        .rw[if_neg o]
         exact mfin_put_no f n l g D hk A (t I8) u o
   rw[if_neg I]at a ⊢;by_cases J:k=8
   .subst J
    rw[if_pos rfl];cases r with
    | nil=>exact mfin_ret_end f n l g rfl
    | cons d r=>exact mfin_ret_go f n l g rfl
   rw[if_neg J]at a ⊢;by_cases K:k=9
   .subst K
    rw[if_pos rfl];exact mfin_print f n l g u
   rw[if_neg K]at a ⊢;by_cases F:k=10
   .subst F
    rw[if_pos rfl];exact mfin_do f n l g
   .rw[if_neg F]at a;exact absurd rfl a
theorem mnext_any{G:Gm}{τ:Nat->Lb}{w:World}{m:Vm}(g:MW G τ w m)(D:m.s.stat=0){K:Nat}(I:K<=900000000)(a:kS G.p K m≠.bad):
 Calls Tryz.prog 70 #[.pointer (some ⟨G.b,0,none⟩)] w (VOut G w (kS G.p K m)):=by
 obtain⟨s,v,F⟩:=m;unfold kS at a ⊢;cases F with
 | nil=>exact absurd rfl a
 | cons c r=>
   dsimp only at a D ⊢;by_cases l:Lm K s v c.vs c.o
   .rw[if_pos l]at a ⊢
    have E:v.length<=1000000000:=by have:=l.v;omega
    have H:c.vs.length<=2000000000:=by have:=l.vs;omega
    have B:s.cost+1+s.fuel<=1000000000:=by have:=l.c;omega
    have A:c.o.length<=1000000000:=by have:=l.o;omega
    cases hx:c.code[c.pl]? with
    | none=>rw[hx]at a;exact absurd rfl a
    | some x=>
      rw[hx]at a;dsimp only at a ⊢;cases x with
      | beg=>exact mnext_beg g rfl D hx
      | app e=>
        obtain⟨k,op,n,name,args⟩:=e;exact mnext_app g rfl a (fun τ W u hW hpe=>mapply_any hW hpe rfl E B a) hx
      | fin t=>
        obtain⟨k,J,name,args,thn,els⟩:=t;exact mnext_fin g rfl a (fun τ W u hW hpe=>mfinish_any hW hpe rfl E H B a) hx
      | jmp t=>exact mnext_jmp g rfl hx
      | unl t=>
        unfold xP at a ⊢;dsimp only at a ⊢;cases d:v.getLast? with
        | none=>rw[d]at a;exact absurd rfl a
        | some n=>
          dsimp only;have i:=snoc_of d;have j:v.dropLast.length<=1000000000:=QB
          generalize v.dropLast=q at *;by_cases f:n=0
          .subst f
           rw[if_pos rfl];exact mnext_unl0 g rfl i j hx
          .rw[if_neg f]
           exact mnext_unl1 g rfl i f j hx
      | lzy z t=>
        unfold xP at a ⊢;dsimp only at a ⊢;cases d:v.getLast? with
        | none=>rw[d]at a;exact absurd rfl a
        | some n=>
          dsimp only;have i:=snoc_of d;have j:v.dropLast.length<=1000000000:=QB
          generalize v.dropLast=q at *;by_cases f:n=0
          .cases z
           .rw[if_neg (by simp[f])]
            exact mnext_lzy_false_go g rfl i f j hx
           .rw[if_pos (by simp[f]),i]
            exact mnext_lzy_true_jump (i ▸ g) rfl rfl f j hx
          .cases z
           .rw[if_pos (by simp[f]),i]
            exact uy (i ▸ g) rfl rfl f j hx
           .rw[if_neg (by simp[f])]
            exact mnext_lzy_true_go g rfl i f j hx
      | ent=>exact mnext_ent g rfl A hx
      | lve=>
        unfold xP at a ⊢;dsimp only at a ⊢;cases d:c.o.getLast? with
        | none=>rw[d]at a;exact absurd rfl a
        | some n=>
          dsimp only
          obtain⟨q,C⟩:∃q,c.o=q++[n]:=by
           rcases List.eq_nil_or_concat c.o with y|⟨q,L,y⟩
           .rw[y]at d;cases d
           .rw[List.concat_eq_append]at y
            rw[y,qh]at d;injection d with d;exact⟨q,by rw[y,d]⟩
          rw[show c.o.dropLast=q by rw[C,qV]];exact mnext_lve g rfl C A hx
   .rw[if_neg l]at a;exact absurd rfl a
theorem node_stat{p:Pr}{vs:Vals}{k op n:Int}{name:ByteArray}{l:List Int}{s t:RS}{x:Int}(h:zw p (fun _ _ s=>.fin s) vs k op n name l s=.ok x t):t.stat=s.stat:=by
 unfold zw at h;split at h
 .injection h with _ h;rw[<-h]
 split at h
 .injection h with _ h;rw[<-h]
 split at h
 .injection h with _ h;rw[<-h];rfl
 split at h
 .split at h
  .injection h with _ h;rw[<-h];rfl
  .cases h
 split at h
 .have:=y7 p name (l.getD 0 0) (zT s)
  rw[h]at this;exact this.2.2.2
 split at h
 .split at h <;> cases h
 .have:=xh (zT s)
  rw[h]at this;exact this.2.2.2
theorem vmIns_stat{p:Pr}{x:Ins}{s:RS}{v:List Int}{c:Fr}{r:List Fr}{m':Vm}(a:xP p x s v c r=.go m'):m'.s.stat=s.stat:=by
 cases x with
 | beg=>
   unfold xP at a;dsimp only at a;cases hs:qI s with
   | fin t=>rw[hs]at a;cases a
   | ok _ t=>rw[hs]at a;injection a with a;rw[<-a];exact(yM hs).idl.2
 | app e=>
   obtain⟨k,op,n,name,args⟩:=e;have a:vmApp p k op n name args.length s v c r=.go m':=a;unfold vmApp at a;split at a
   .cases a
   split at a
   .split at a
    .split at a
     .injection a with a;rw[<-a];rfl
     .cases a
    .cases a
   split at a
   .cases a
   cases hn:zw p (fun _ _ s=>.fin s) c.vs k op n name (v.drop (v.length-args.length)) s with
   | ok x t=>rw[hn]at a;injection a with a;rw[<-a];exact node_stat hn
   | fin t=>rw[hn]at a;cases a
 | fin t=>
   obtain⟨k,f,name,args,thn,els⟩:=t;have a:vmFin p k name s v c r=.go m':=a;unfold vmFin at a;cases hl:v.getLast? with
   | none=>rw[hl]at a;cases a
   | some x=>
     rw[hl]at a;dsimp only at a;split at a
     .cases a
     split at a
     .injection a with a;rw[<-a]
     split at a
     .split at a
      .cases a
      .injection a with a;rw[<-a]
     split at a
     .cases hl2:v.dropLast.getLast? with
      | none=>rw[hl2]at a;cases a
      | some i=>
        rw[hl2]at a;dsimp only at a;split at a
        .cases a
        .have b:=y8 p name i x (zT s)
         cases hp:kY p name i x (zT s)with
         | fin t=>rw[hp]at a;cases a
         | ok _ t=>rw[hp]at a b;injection a with a;rw[<-a];exact b.2.2.2
     split at a
     .unfold retV at a
      cases r with
      | nil=>cases a
      | cons d q=>injection a with a;rw[<-a]
     split at a
     .injection a with a;rw[<-a];rfl
     split at a
     .injection a with a;rw[<-a]
     .cases a
 | jmp t=>injection a with a;rw[<-a]
 | unl t=>
   exact OJ
 | lzy z t=>
   unfold xP at a;dsimp only at a;split at a
   .cases a
   .split at a
    .injection a with a;rw[<-a]
    .injection a with a;rw[<-a]
 | ent=>injection a with a;rw[<-a]
 | lve=>
   exact OJ
theorem vmStep_stat{p:Pr}{K:Nat}{m m':Vm}(h:kS p K m=.go m'):m'.s.stat=m.s.stat:=by
 unfold kS at h;cases hc:m.cs with
 | nil=>rw[hc]at h;cases h
 | cons c r=>
   rw[hc]at h;dsimp only at h;split at h
   .split at h
    .cases h
    .exact vmIns_stat h
   .cases h
theorem least_eps{P:Nat->Prop}(e:∃j,P j):P (Classical.epsilon fun j=>P j/\∀i,P i->j<=i)/\∀i,P i->(Classical.epsilon fun j=>P j/\∀i,P i->j<=i)<=i:=by
 have k:∀n,(∃j,j<=n/\P j)->∃j,P j/\∀i,P i->j<=i:=by
  intro n
  induction n with
  | zero=>
    rintro⟨j,a,b⟩;have:j=0:=I7
    subst this;exact⟨0,b,fun i _=>Nat.zero_le _⟩
  | succ n g=>
    rintro⟨j,a,b⟩;by_cases d:∃j,j<=n/\P j
    .exact g d
    .refine⟨j,b,fun i f=>?_⟩
     rcases Nat.lt_or_ge i j with c|c
     .exact absurd ⟨i,I7,f⟩ d
     .exact c
 obtain⟨j,a⟩:=e;exact Classical.epsilon_spec (p:=fun j=>P j/\∀i,P i->j<=i) (k j ⟨j,Nat.le_refl _,a⟩)
theorem as_ended(v:Value)(a:TypeId)(w:World):(Instr.typeAssert (.iface 68 v) a 68 true).run Tryz.prog w=.ok (.tuple #[v,.bool true]) w:=by
 simp[Instr.typeAssert,run_underlying Tryz.underlying68]
abbrev js:Obj:=.cells #[.int .i64 0,.int .i64 0] 68
theorem ecatch(p:Nat)(a b:Int)(f:List PanicEntry)(w:World)(d:w.heap[p]? =some js):
 CallsD Tryz.prog 68 #[.pointer (some ⟨p,0,none⟩)] (.panicking ({ v:=.iface 68 (.agg #[.int .i64 a,.int .i64 b]),recovered:=false } :: f)) w fun e m w'=>
  e=.returned (.tuple #[])/\m=.panicking ({ v:=.iface 68 (.agg #[.int .i64 a,.int .i64 b]),recovered:=true } :: f)/\w'.heap[p]? =some (.cells #[.int .i64 a,.int .i64 b] 68 (0,0))/\OffX (fun k=>k=p) w w':=by
 obtain⟨⟨r,s⟩,t⟩:=zO d;have g:=zB d;have q:=as_ended (.agg #[.int .i64 a,.int .i64 b]);refine callsD_of_wpS Tryz.func68 rfl fun o n i=>?_
 apply wpS_seq;apply wpS_region;simp[wpOpsS,go_sem,recoverD,i,Tryz.ntmps68,Exit.thenS];refine wpS_of_wp ?_;change Code.wp _ _ _ ⟨#[.pointer (some ⟨p,0,none⟩),.iface 68 (.agg #[.int .i64 a,.int .i64 b]),undef,undef,.iface 68 (.agg #[.int .i64 a,.int .i64 b]),undef,undef,undef,undef,undef,undef,undef,undef,undef],[]⟩ _;go_wp2
 have j:((((w.setCell ⟨p,0,none⟩ (.int .i64 a)).setCell ⟨p,1,none⟩ (.int .i64 b)).alloc (.cells #[.int .i64 a,.int .i64 b] 68)).heap[p]? =some (.cells #[.int .i64 a,.int .i64 b] 68 (0,0))):=
  (Below.heap_alloc _ _ p (by simp[World.setCell];exact g)).trans (Lib.heap_setCell_same (Lib.heap_setCell_same d _) _)
 have l:OffX (fun k=>k=p) w (((w.setCell ⟨p,0,none⟩ (.int .i64 a)).setCell ⟨p,1,none⟩ (.int .i64 b)).alloc (.cells #[.int .i64 a,.int .i64 b] 68)):=
  ((OffX.set (X:=fun k=>k=p) w rfl 0 _).trans (OffX.set (X:=fun k=>k=p) _ rfl 1 _) fun _ _ c=>c).trans (OffX.alloc (fun k=>k=p) _ _) fun _ _ c=>c
 exact⟨rfl,_,rfl,.tuple #[],by simp[results,Tryz.results68,go_sem],rfl,rfl,j,l⟩
def EndW(G:Gm)(w:World)(t:RS):Prop:=∃d e c a,w.heap[G.b]? =some (mcO G d e c a t)/\w.ownsRow G.B 3 1 a t.out.length (t.out.map (Value.int .i64))/\t.out.length<=t.cost/\t.cost+t.fuel<=1000000000
def enV(c:Option Int)(t:RS):Value:=match c with
 | some n=>.agg #[.int .i64 1,.int .i64 n]
 | none=>.agg #[.int .i64 t.stat,.int .i64 0]
def Left(G:Gm)(K:Nat)(c:Option Int)(t:RS)(w wr:World)(j:Nat):Prop:=∃τ mj,MW G τ wr mj/\mj.s.stat=0/\vmN G.p K j mj=.stop c t/\Below G.B w wr
def Gm.keeping(G:Gm)(e:Nat)(o:Obj):Gm:={ G with kp:=fun k x=>k=e/\x=o }
theorem MwI.keeping{G:Gm}{τ:Nat->Lb}{w:World}{m:Vm}{d f c vo:Value}(a:MwI G τ w m d f c vo){e:Nat}{o:Obj}(j:τ e=.gl)(g:w.heap[e]? =some o):MwI (G.keeping e o) τ w m d f c vo:=
 ⟨a.hB,a.old,a.tab,a.pok,a.box,a.lab,a.inp,a.val,a.out,a.frs,a.fun',(by obtain⟨l,b⟩:=a.arr;exact⟨l,⟨b.lab,b.len,b.rl,b.map,b.row⟩⟩),a.nv,a.ni,a.no,a.lim,fun k x i=>by
   obtain⟨rfl,rfl⟩:=i
   exact⟨j,g⟩⟩
theorem end_after{G:Gm}{e:Nat}{τ:Nat->Lb}{g i:World}{t:RS}{v:List Int}{j:List Fr}(a:MW (G.keeping e js) τ g ⟨t,v,j⟩)(f:OffX (fun k=>k=e) g i):EndW G i t:=by
 obtain⟨n,p,m,o,a⟩:=a;have c:=(a.kp e js ⟨rfl,rfl⟩).1;have l:G.b≠e:=fun x=>by have:=a.lab;rw[show(G.keeping e js).b=G.b from rfl,x,c]at this;cases this
 refine⟨n,p,m,o,(f.block _ a.lt l).trans a.box,zm a.out.1 fun k d=>f.block k (qP a.out.1 k d).1 fun(x:k=e)=>?_,a.no,a.lim⟩;have:=a.out.2 k d;rw[x,c]at this;cases this
theorem mend_any{G:Gm}{τ:Nat->Lb}{w:World}{E:RS}(aB:MW G τ w ⟨E,[],[]⟩)(ae:E.stat=0){o:Fu}(X:jH G.p ⟨#[109,97,105,110]⟩=some o)(W:o.params.length=0){K:Nat}(ay:K<=900000000){c:Option Int}{t:RS}(ab:To G.p K ⟨E,[],[⟨genF o,0,evPar o [],[]⟩]⟩ (.stop c t)):
 Calls Tryz.prog 33 #[.pointer (some ⟨G.b,0,none⟩)] w fun e w'=>e=.returned (enV c t)/\EndW G w' t/\Below G.B w w':=by
 have aH:∀(S:Fn) (first R:Array Value) (w:World),(Instr.makeFunc S first R).run Tryz.prog w=.ok (.func S first R) w:=fun _ _ _ _=>rfl
 obtain⟨aM,aO,aJ,aN,I⟩:=aB;have ax:=I.hB;have L:Below w.heap.size w (w.alloc js):=Zb.alloc Zr _;have J:=(I.relab L (Ext.lbl τ w .gl Zr)).keeping (uD τ w.heap.size .gl) (heap_alloc_new w js);have al:=hid (show MW (G.keeping w.heap.size js) (lbl τ w.heap.size .gl) (w.alloc js) ⟨E,[],[]⟩from⟨_,_,_,_,J⟩);have ah:=hid (L.mono ax);have aI:(w.alloc js).heap.size=w.heap.size+1:=zA _ _;have aj:=hid (show jH (G.keeping w.heap.size js).p ⟨#[109,97,105,110]⟩=some o from X);have an:=hid ab;have ai:=hid W;have ao:=hid ae;clear I J L X ab W ae
 go_enter_defers Tryz.func33,Tryz.ntmps33
 go_wp2_with (first
  | (go_at_call 69;(refine(mcall_any (G:=G.keeping w.heap.size js) al.out (q:=[]) (l:=[]) rfl (Nat.zero_le _) aj.out ai.out.symm I8).mono ?_);rintro e aP ⟨rfl,⟨τ2,Z⟩,U⟩
     have am:=hid Z;have ag:=hid (ah.out.trans U)
     clear Z U))
 go_loopw [6] (fun _ wr=>∃j,Left (G.keeping w.heap.size js) K c t w wr j) (fun _ wr=>Classical.epsilon fun j=>Left (G.keeping w.heap.size js) K c t w wr j/\∀i,Left (G.keeping w.heap.size js) K c t w wr i->j<=i)
 case atStart=>
  obtain⟨k,Y⟩:=an.out;exact⟨k,τ2,_,am.out,ao.out,Y,ag.out⟩
 case round=>
  obtain⟨T,aC⟩:=least_eps hrel;obtain⟨j0,M⟩:∃j0,(Classical.epsilon fun j=>Left (G.keeping w.heap.size js) K c t w wr j/\∀i,Left (G.keeping w.heap.size js) K c t w wr i->j<=i)=j0:=⟨_,rfl⟩
  rw[M]at T;have ak:=hid M;clear aC hrel M;obtain⟨τj,u,N,C,d,V⟩:=T;have P:=hid V;clear V;cases j0 with
  | zero=>cases d
  | succ g=>
    rw[vmN]at d
    have A:kS (G.keeping w.heap.size js).p K u≠.bad:=fun e=>by
     have d:(match kS (G.keeping w.heap.size js).p K u with | .go m'=>vmN G.p K g m'|x=>x)=.stop c t:=d;rw[e]at d;cases d
    have m:=mnext_any N C ay A;cases hx:kS (G.keeping w.heap.size js).p K u with
    | bad=>exact absurd hx A
    | go D=>
      have d:(match kS (G.keeping w.heap.size js).p K u with | .go m'=>vmN G.p K g m'|x=>x)=.stop c t:=d;rw[hx]at m d;have ad:D.s.stat=0:=(vmStep_stat hx).trans C;have F:=hid (show Calls Tryz.prog 70 #[.pointer (some ⟨G.b,0,none⟩)] wr (uX (G.keeping w.heap.size js) wr D (.tuple #[]))from m);have Q:=hid (And.intro ad (show vmN G.p K g D=.stop c t from d));clear m N C d A hx ad
      go_wp2_with (first
       | (go_at_call 70;(refine F.out.mono ?_);rintro e v ⟨rfl,⟨τ4,r⟩,z⟩
          have H:=hid (show Left (G.keeping w.heap.size js) K c t w v g from⟨τ4,D,r,Q.out.1,Q.out.2,P.out.trans z⟩)
          clear r z))
      go_roundw
      case rel=>exact⟨g,H.out⟩
      case measure=>
       have J:=(least_eps ⟨g,H.out⟩).2 g H.out;have aG:=ak.out;omega
    | stop y O=>
      have d:(match kS (G.keeping w.heap.size js).p K u with | .go m'=>vmN G.p K g m'|x=>x)=.stop c t:=d;rw[hx]at m d;injection d with ar au;subst ar au;have F:=hid (show Calls Tryz.prog 70 #[.pointer (some ⟨G.b,0,none⟩)] wr (xr (G.keeping w.heap.size js) wr y O)from m);clear m N C A hx;go_wp2_with (fail);refine F.out.mono ?_;rintro e v ⟨rfl,⟨τ4,aL,aF,r⟩,z⟩;have af:v.heap[w.heap.size]? =some js:=by obtain⟨_,_,_,_,aw⟩:=r;exact(aw.kp _ _ ⟨rfl,rfl⟩).2
      obtain⟨ap,aq,az,aE⟩:∃a b,endOf y O=endE a b/\enV y O=.agg #[.int .i64 a,.int .i64 b]:=by
       cases y with
       | none=>exact⟨_,_,rfl,rfl⟩
       | some n=>exact⟨_,_,rfl,rfl⟩
      rw[az];refine leaves_cons (f:=68) (args:=#[.pointer (some ⟨w.heap.size,0,none⟩)]) Ia (by simp[go_sem]) ?_;refine(ecatch w.heap.size ap aq [] v af).mono ?_;rintro e aK w'' ⟨rfl,rfl,aD,aa⟩;obtain⟨⟨av,f1⟩,_⟩:=zO aD;simp[Leaves,settle,results,Tryz.results33,go_sem,av,f1,aE];have aA:Below G.B v w'':=aa.below (by have:=zB af;omega) fun k Y (e:k=w.heap.size)=>I7
      exact⟨end_after r aa,(P.out.trans z).trans aA⟩
end Go.Proofs.YthcmenajdcbnnaaGreatDoor
namespace Go.Proofs.YthcmenajdcbnnaaGreatDoor
open Lib (hid)
open Go.RowKit
def RS.inx(l:List Int)(s:RS):RS:={ s with inp:=s.inp++l }
def Rd{α:Type}(l:List Int)(x y:Res α):Prop:=
 match x with
 | .ok a t=>y=.ok a (t.inx l)
 | .fin t=>t.stat=4\/y=.fin (t.inx l)
section
variable {α β:Type} {l:List Int}
theorem Rd.ok{a:α}{s:RS}:Rd l (.ok a s) (.ok a (s.inx l)):=rfl
theorem Rd.fin{s:RS}:Rd l (.fin s:Res α) (.fin (s.inx l)):=.inr rfl
theorem Rd.bind{x c:Res α}{f g:α->RS->Res β}(b:Rd l x c)(d:∀a t,Rd l (f a t) (g a (t.inx l))):Rd l (x.bind f) (c.bind g):=by
 cases x with
 | ok a t=>rw[show c=.ok a (t.inx l)from b];exact d a t
 | fin t=>
   rcases(show t.stat=4\/c=.fin (t.inx l)from b)with b|b
   .exact .inl b
   .rw[b];exact .inr rfl
theorem Rd.ite{c:Prop}[Decidable c]{x b d e:Res α}(f:Rd l x d)(g:Rd l b e):Rd l (if c then x else b) (if c then d else e):=by
 by_cases a:c
 .simp only[if_pos a];exact f
 .simp only[if_neg a];exact g
end
section
variable {l:List Int}
theorem evL_rd{f:Ex->RS->Res Int}(h:∀e s,Rd l (f e s) (f e (s.inx l))):∀(r:List Ex) (s:RS),Rd l (evL f r s) (evL f r (s.inx l))
 | [],s=>Rd.ok
 | e::r,s=>by
   rw[evL,evL];exact(h e s).bind fun a t=>(evL_rd h r t).bind fun q u=>Rd.ok
theorem evLs_rd{f:Vals->St->RS->Res yL}(h:∀vs t s,Rd l (f vs t s) (f vs t (s.inx l))):∀(r:List St) (vs:Vals) (s:RS),Rd l (kx f vs r s) (kx f vs r (s.inx l))
 | [],vs,s=>Rd.ok
 | t::r,vs,s=>by
   rw[kx,kx];exact(h vs t s).bind fun a u=>Rd.ite (evLs_rd h r _ u) Rd.ok
theorem evBk_rd{f:Vals->St->RS->Res yL}(h:∀vs t s,Rd l (f vs t s) (f vs t (s.inx l)))(vs:Vals)(r:List St)(s:RS):Rd l (qw f vs r s) (qw f vs r (s.inx l)):=by
 unfold qw;exact(evLs_rd h r vs s).bind fun a t=>Rd.ok
theorem evW_rd{e:Vals->RS->Res Int}{b:Vals->RS->Res yL}(d:∀vs s,Rd l (e vs s) (e vs (s.inx l)))(c:∀vs s,Rd l (b vs s) (b vs (s.inx l))):∀(k:Nat) (vs:Vals) (s:RS),Rd l (evW e b k vs s) (evW e b k vs (s.inx l))
 | 0,vs,s=>Rd.fin
 | k+1,vs,s=>by
   rw[evW,evW];exact(d vs s).bind fun a t=>Rd.ite Rd.ok ((c vs t).bind fun f u=>Rd.ite Rd.ok (Rd.ite Rd.ok (evW_rd d c k _ u)))
theorem evStep_rd(s:RS):Rd l (qI s) (qI (s.inx l)):=by
 obtain⟨a,c,out,b,e,d,g⟩:=s;cases e with
 | zero=>exact Rd.fin (s:=⟨a,c,out,b,0,d,true⟩)
 | succ f=>exact Rd.ok (s:=⟨a,c,out,b,f,d,g⟩)
theorem evIdx_rd(p:Pr)(name:ByteArray)(i:Int)(s:RS):Rd l (ym p name i s) (ym p name i (s.inx l)):=by
 unfold ym;show Rd l _ (match zb p.arrays name with|none=>_|some k=>match s.arr[k]? with|none=>_|some l=>_);cases zb p.arrays name with
 | none=>exact Rd.fin
 | some k=>
   exact OI
theorem evPut_rd(p:Pr)(name:ByteArray)(i n:Int)(s:RS):Rd l (kY p name i n s) (kY p name i n (s.inx l)):=by
 unfold kY;show Rd l _ (match zb p.arrays name with|none=>_|some k=>match s.arr[k]? with|none=>_|some l=>_);cases zb p.arrays name with
 | none=>exact Rd.fin
 | some k=>
   exact OI
theorem evRead_rd(s:RS):Rd l (xR s) (xR (s.inx l)):=by
 unfold xR;show Rd l _ (match s.inp++l with | []=>_|n::r=>_);cases hs:s.inp with
 | nil=>exact .inl rfl
 | cons n r=>exact Rd.ok (s:={ s with inp:=r })
theorem node_rd{p:Pr}{c:Fu->List Int->RS->Res Int}(a:∀f q s,Rd l (c f q s) (c f q (s.inx l)))(vs:Vals)(k op n:Int)(name:ByteArray)(q:List Int)(s:RS):
 Rd l (zw p c vs k op n name q s) (zw p c vs k op n name q (s.inx l)):=by
 unfold zw;refine Rd.ite Rd.ok (Rd.ite Rd.ok (Rd.ite (Rd.ok (s:=zT s)) (Rd.ite (Rd.ite (Rd.ok (s:=zT s)) (Rd.fin (s:=jq (zT s) 2))) (Rd.ite (evIdx_rd p name _ (zT s)) (Rd.ite ?_ (evRead_rd (zT s)))))));cases jH p name with
 | none=>exact Rd.fin
 | some f=>exact a f q (zT s)
mutual
theorem evE_rd(p:Pr):∀(g:Nat) (vs:Vals) (e:Ex) (s:RS),Rd l (yA p g vs e s) (yA p g vs e (s.inx l))
 | 0,vs,e,s=>by rw[yA,yA];exact Rd.fin (s:={ s with spent:=true })
 | g+1,vs,.mk k op n name args,s=>by
   rw[yA,yA];refine(evStep_rd s).bind fun _ t=>Rd.ite ((evE_rd p g vs _ t).bind fun a u=>Rd.ite Rd.ok (evE_rd p g vs _ u)) ((evL_rd (fun e s=>evE_rd p g vs e s) args t).bind fun q u=>?_)
   exact node_rd (c:=fun f l s=>(qw (j9 p g) (evPar f l) f.body s).bind fun h s=>.ok h.2.1 s) (fun f q s=>(evBk_rd (fun vs t s=>evS_rd p g vs t s) _ _ s).bind fun h x=>Rd.ok) vs k op n name q u
theorem evS_rd(p:Pr):∀(g:Nat) (vs:Vals) (t:St) (s:RS),Rd l (j9 p g vs t s) (j9 p g vs t (s.inx l))
 | 0,vs,t,s=>by rw[j9,j9];exact Rd.fin (s:={ s with spent:=true })
 | g+1,vs,.mk k ty name args thn els,s=>by
   rw[j9,j9];have b:∀vs r s,Rd l (qw (j9 p g) vs r s) (qw (j9 p g) vs r (s.inx l)):=fun vs r s=>evBk_rd (fun vs t s=>evS_rd p g vs t s) vs r s
   refine(evStep_rd s).bind fun _ t=>Rd.ite (evW_rd (fun vs s=>evE_rd p g vs _ s) (fun vs s=>b vs thn s) _ vs t) (Rd.ite Rd.ok (Rd.ite Rd.ok ((evE_rd p g vs _ t).bind fun a u=>?_)))
   refine Rd.ite Rd.ok (Rd.ite Rd.ok (Rd.ite ((evE_rd p g vs _ u).bind fun n v=>(evPut_rd p name a n (zT v)).bind fun _ x=>Rd.ok) (Rd.ite (Rd.ite (b vs thn u) (b vs els u)) (Rd.ite Rd.ok (Rd.ite ?_ Rd.ok)))));exact Rd.ok (s:={ zT u with out:=u.out++[a] })
end
end
theorem chkFs_mem{p:Pr}:∀{l:List Fu} {i:Nat},(chkFs p l i).1=0->∀f∈l,(uV p f).1=0
 | [],_,_,f,a=>Ii
 | x::r,i,h,f,a=>by
   rw[chkFs]at h;by_cases b:(uV p x).1=0
   .rw[if_neg Ih]at h
    rcases List.mem_cons.1 a with rfl|a
    .exact b
    .exact chkFs_mem h f a
   .rw[if_pos b]at h;exact absurd h b
theorem yj{p:Pr}(a:(vD p).1=0):prOK p=true/\AllR p/\∃f,jH p ⟨#[109,97,105,110]⟩=some f/\f.params=[]:=by
 unfold vD at a;by_cases i:prOK p=false
 .rw[if_pos i]at a;exact absurd a QM
 rw[if_neg i]at a;have g:prOK p=true:=by simpa using i
 by_cases e:(dupA p p.arrays || dupF p.funcs || !uN p)=true
 .rw[if_pos e]at a;exact absurd a II
 rw[if_neg e]at a;refine⟨g,fun f d=>⟨?_,?_⟩,?_⟩
 .have b:=chkFs_mem a f d
  unfold uV at b;by_cases k:dupP f.params=true
  .rw[if_pos k]at b;exact absurd b II
  rw[if_neg k]at b;by_cases j:(zf p f.type f.body f.params f.params.length false 0).1=0
  .exact j
  .rw[if_pos j]at b;exact absurd b j
 .unfold prOK at g
  rw[Bool.and_eq_true]at g;have:=List.all_eq_true.1 g.2 f d;unfold yF at this;simp only[Bool.and_eq_true]at this;exact this.2
 .have c:uN p=true:=by
   simp only[Bool.or_eq_true,not_or,Bool.not_eq_true',Bool.not_eq_false]at e;simpa using e.2
  unfold uN at c;cases d:jH p ⟨#[109,97,105,110]⟩with
  | none=>rw[d]at c;cases c
  | some f=>
    rw[d]at c;simp only[Bool.and_eq_true,decide_eq_true_eq]at c;exact⟨f,rfl,List.length_eq_zero_iff.1 c.2⟩
def jt(p:Pr)(b:List Int)(F:Nat):RS:=⟨p.arrays.map fun a=>List.replicate a.size.toNat 0,b,[],0,F,0,false⟩
def evTell:Res yL->Int × Int × List Int × Nat × Nat
 | .ok h s=>(1,h.2.1,s.out,s.cost,s.fuel)
 | .fin s=>(s.stat,0,s.out,s.cost,s.fuel)
theorem yV{p:Pr}(b:(vD p).1≠0)(c:List Int)(a:Int):zZ p c a=(0,0,[],0,0):=by unfold zZ;rw[if_pos b]
theorem xc{p:Pr}(d:(vD p).1=0){f:Fu}(e:jH p ⟨#[109,97,105,110]⟩=some f)(c:List Int)(b:Int):zZ p c b=evTell (qw (j9 p b.toNat) [] f.body (jt p c b.toNat)):=by
 unfold zZ;rw[if_neg Ir,e];show(match qw (j9 p b.toNat) [] f.body (jt p c b.toNat)with | .ok d s=>_ | .fin s=>_)=_;cases qw (j9 p b.toNat) [] f.body (jt p c b.toNat)with
 | ok a t=>rfl
 | fin t=>rfl
theorem beg_shp(p:Pr)(a:List Int)(F:Nat):Shp p (jt p a F):=⟨by show(p.arrays.map _).length=_;rw[List.length_map],rfl,rfl⟩
theorem run_fine{p:Pr}(c:(vD p).1=0){f:Fu}(d:jH p ⟨#[109,97,105,110]⟩=some f)(b:List Int)(F:Nat):zo p (qw (j9 p F) [] f.body (jt p b F)):=by
 obtain⟨_,a,_⟩:=yj c;obtain⟨e,g⟩:=a f (uq d);exact yP (kM p a F).2 f.type f.body f.params [] _ _ _ _ 100 Zr (beg_shp p b F) g e
theorem run_more(p:Pr)(b:List Int)(F m:Nat):
 if(zZ p b (F:Int)).1=0 then(zZ p b (F:Int)).2.2.2.2=0/\(∃l,(zZ p b ((F+m:Nat):Int)).2.2.1=(zZ p b (F:Int)).2.2.1++l)/\(zZ p b (F:Int)).2.2.2.1<=(zZ p b ((F+m:Nat):Int)).2.2.2.1
 else zZ p b ((F+m:Nat):Int)=((zZ p b (F:Int)).1,(zZ p b (F:Int)).2.1,(zZ p b (F:Int)).2.2.1,(zZ p b (F:Int)).2.2.2.1,(zZ p b (F:Int)).2.2.2.2+m):=by
 by_cases d:(vD p).1=0
 .obtain⟨_,o,f,i,_⟩:=yj d
  rw[xc d i,xc d i,Int.toNat_natCast,Int.toNat_natCast];have c:=(evBk_mo (fun vs t=>evS_mo p m F (F+m) vs t (Nat.le_add_right _ _)) [] f.body).go (jt p b F) Zr rfl;have n:=run_fine d i b F;have e:(jt p b F).more m=jt p b (F+m):=rfl;rw[e]at c;cases hx:qw (j9 p F) [] f.body (jt p b F)with
  | ok a t=>
    rw[hx]at c;rw[show qw (j9 p (F+m)) [] f.body (jt p b (F+m))=.ok a (t.more m)from c];exact(if_neg QM).mpr rfl
  | fin t=>
    rw[hx]at c n;unfold More at c;dsimp only at c;rcases n with⟨g,j,k⟩|⟨g,j,k⟩
    .rw[if_pos g]at c
     rw[if_pos (show(evTell (Res.fin t:Res yL)).1=0 from j)];refine⟨k,?_⟩;cases hy:qw (j9 p (F+m)) [] f.body (jt p b (F+m))with
     | ok a u=>rw[hy]at c;exact c.2
     | fin u=>rw[hy]at c;exact c.2
    .rw[if_neg (by rw[g];decide)]at c
     rw[c,if_neg (show ¬(evTell (Res.fin t:Res yL)).1=0 from fun d=>by have d:t.stat=0:=d;omega)];rfl
 .rw[yV d,yV d,if_pos rfl]
  exact⟨rfl,⟨[],rfl⟩,Nat.le_refl _⟩
theorem run_reads(p:Pr)(c l:List Int)(fuel:Int):(zZ p c fuel).1=4\/zZ p (c++l) fuel=zZ p c fuel:=by
 by_cases d:(vD p).1=0
 .obtain⟨_,_,f,e,_⟩:=yj d
  rw[xc d e,xc d e];have b:=evBk_rd (l:=l) (f:=j9 p fuel.toNat) (fun vs t s=>evS_rd p fuel.toNat vs t s) [] f.body (jt p c fuel.toNat);rw[show(jt p c fuel.toNat).inx l=jt p (c++l) fuel.toNat from rfl]at b;cases hx:qw (j9 p fuel.toNat) [] f.body (jt p c fuel.toNat)with
  | ok a t=>
    rw[hx]at b;rw[show qw (j9 p fuel.toNat) [] f.body (jt p (c++l) fuel.toNat)=.ok a (t.inx l)from b];exact .inr rfl
  | fin t=>
    rw[hx]at b;rcases b with b|b
    .exact .inl b
    .rw[b];exact .inr rfl
 .rw[yV d,yV d]
  exact .inr rfl
end Go.Proofs.YthcmenajdcbnnaaGreatDoor
