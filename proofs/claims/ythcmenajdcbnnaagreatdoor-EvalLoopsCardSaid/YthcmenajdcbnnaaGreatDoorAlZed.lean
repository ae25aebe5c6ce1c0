import Derived.Test.YthcmenajdcbnnaaGreatDoorProg
import Derived.Lib.Hide
import Derived.Below
namespace Go.Proofs.YthcmenajdcbnnaaGreatDoor
open Go Go.RowKit
theorem Zr{n:Nat}:n<=n:=Nat.le_refl n
theorem Zb{L:Nat}{w:World}:Below L w w:=Below.refl L w
def Do(p:Prop):Prop:=p
theorem Do.o{p:Prop}(h:Do p):p:=h
theorem U{p:Prop}(h:p):Do p:=h
theorem Dp:type_of% @if_neg:=@if_neg
theorem Dq:type_of% @if_pos:=@if_pos
theorem Dr:type_of% @List.length_append:=@List.length_append
theorem Ds:type_of% @heap_alloc_new:=@heap_alloc_new
theorem Dt:type_of% @And.intro:=@And.intro
theorem Dv:type_of% @Nat.le_of_eq:=@Nat.le_of_eq
theorem Dw:type_of% @Below.heap_setCell:=@Below.heap_setCell
theorem Dx:type_of% @Nat.zero_le:=@Nat.zero_le
theorem Dy:type_of% @Nat.le_trans:=@Nat.le_trans
theorem Dz:type_of% @List.getElem?_eq_getElem:=@List.getElem?_eq_getElem
theorem D0:type_of% @Nat.le_refl:=@Nat.le_refl
theorem D1:type_of% @List.length_cons:=@List.length_cons
theorem D2:type_of% @Bool.and_eq_true:=@Bool.and_eq_true
theorem D4:type_of% @Below.refl:=@Below.refl
theorem D5:type_of% @List.length_nil:=@List.length_nil
theorem D6:type_of% @World.cell?_of_block:=@World.cell?_of_block
theorem D7:type_of% @Below.heap_alloc:=@Below.heap_alloc
theorem D8:type_of% @List.length_singleton:=@List.length_singleton
theorem D9:type_of% @Nat.le_of_lt:=@Nat.le_of_lt
theorem Ya:type_of% @List.append_assoc:=@List.append_assoc
theorem Yb:type_of% @Nat.lt_of_lt_of_le:=@Nat.lt_of_lt_of_le
theorem Yc:type_of% @List.mem_of_getElem?:=@List.mem_of_getElem?
theorem Yd:type_of% @List.append_nil:=@List.append_nil
theorem Ye:type_of% @List.take_of_length_le:=@List.take_of_length_le
theorem Yg:type_of% @List.length_take:=@List.length_take
theorem Yh:type_of% @List.length_map:=@List.length_map
theorem Yi:type_of% @List.getElem?_append_right:=@List.getElem?_append_right
theorem Yj:type_of% @List.map_append:=@List.map_append
theorem Yk:type_of% @Bool.eq_iff_iff:=@Bool.eq_iff_iff
theorem Yl:type_of% @List.getD_eq_getElem?_getD:=@List.getD_eq_getElem?_getD
theorem Yn:type_of% @List.getElem?_map:=@List.getElem?_map
theorem Yo:type_of% @List.getElem?_append_left:=@List.getElem?_append_left
theorem Yp:type_of% @World.ownsRow_nil:=@World.ownsRow_nil
theorem Yq:type_of% @List.eq_nil_of_length_eq_zero:=@List.eq_nil_of_length_eq_zero
theorem Yr:type_of% @List.reverse_append:=@List.reverse_append
theorem Ys:type_of% @List.length_drop:=@List.length_drop
theorem Yt:type_of% @List.take_add_one:=@List.take_add_one
theorem Yu:type_of% @Nat.add_sub_cancel:=@Nat.add_sub_cancel
theorem Yv:type_of% @List.cons_append:=@List.cons_append
theorem Yw:type_of% @List.length_set:=@List.length_set
theorem Yx:type_of% @List.take_zero:=@List.take_zero
theorem Yy:type_of% @Nat.sub_self:=@Nat.sub_self
theorem Yz:type_of% @Nat.zero_add:=@Nat.zero_add
theorem Y2:type_of% @List.flatMap_cons:=@List.flatMap_cons
theorem Y3:type_of% @List.mem_append_right:=@List.mem_append_right
theorem Y4:type_of% @List.mem_cons_self:=@List.mem_cons_self
theorem Y5:type_of% @List.map_cons:=@List.map_cons
theorem Y6:type_of% @List.take_succ_cons:=@List.take_succ_cons
theorem Y7:type_of% @List.mem_cons_of_mem:=@List.mem_cons_of_mem
theorem Y8:type_of% @List.getElem?_take:=@List.getElem?_take
theorem Y9:type_of% @List.all_eq_true:=@List.all_eq_true
theorem Ca:type_of% @Option.some.inj:=@Option.some.inj
theorem Cb:type_of% @List.cons.injEq:=@List.cons.injEq
theorem Cc:type_of% @Nat.min_eq_left:=@Nat.min_eq_left
theorem Cd:type_of% @Bool.or_eq_false_iff:=@Bool.or_eq_false_iff
theorem Ce:type_of% @Nat.succ_pos:=@Nat.succ_pos
theorem Cf:type_of% @Nat.lt_or_ge:=@Nat.lt_or_ge
theorem Cg:type_of% @List.length_replicate:=@List.length_replicate
theorem Ch:type_of% @List.getElem?_set:=@List.getElem?_set
theorem Ci:type_of% @List.any_eq_false:=@List.any_eq_false
theorem Cj:type_of% @List.any_cons:=@List.any_cons
theorem Ck:type_of% @List.take_length:=@List.take_length
theorem Cl:type_of% @Bool.eq_false_iff:=@Bool.eq_false_iff
theorem Cm:type_of% @List.map_nil:=@List.map_nil
theorem Cn:type_of% @List.nil_append:=@List.nil_append
theorem Co:type_of% @Nat.add_assoc:=@Nat.add_assoc
theorem Cp:type_of% @List.headD_cons:=@List.headD_cons
theorem Cq:type_of% @Classical.choose_spec:=@Classical.choose_spec
theorem Cr:type_of% @List.getElem?_zip_eq_some:=@List.getElem?_zip_eq_some
theorem Cs:type_of% @List.takeWhile_prefix:=@List.takeWhile_prefix
theorem Ct:type_of% @List.take_append_drop:=@List.take_append_drop
theorem Cu:type_of% @List.singleton_append:=@List.singleton_append
theorem Cv:type_of% @List.mem_or_eq_of_mem_set:=@List.mem_or_eq_of_mem_set
abbrev Cw(v:Value)(w:World)(e:Ending)(x:World):=e=.returned v/\Below w.heap.size w x
abbrev Cx(v:Value)(w:World)(e:Ending)(x:World):=e=.returned v/\w=x
abbrev Cy(w x:World):=Below w.heap.size w x
abbrev Cz:=Calls Tryz.prog
instance:CoeDep Unit () Value:=⟨.slice none 0 0⟩
instance(a b:Nat):CoeDep (Nat×Nat) (a,b) Value:=⟨.pointer (some ⟨a,b,none⟩)⟩
instance:Coe Bool Value:=⟨.bool⟩
instance:Coe ByteArray Value:=⟨.string⟩
instance(a:Option Addr)(b c:Nat):CoeDep (Option Addr×Nat×Nat) (a,b,c) Value:=⟨.slice a b c⟩
instance:Coe Int Value:=⟨.int .i64⟩
instance(a b:Nat):CoeDep (Nat×Nat) (a,b) Addr:=⟨⟨a,b,none⟩⟩
universe u
theorem C0{α:Sort u}(a:α):∃z,a=z:=⟨a,rfl⟩
theorem C2(p:Prop)(h:p):Do p:=h
abbrev C3:=ByteArray
abbrev C4:=World
abbrev C5:=Value
variable{p:Prop}
theorem O(h:p:=by omega):p:=h
theorem Uf(h:p:=by decide):p:=h
theorem Ug(h:p:=by simp;omega):p:=h
theorem Ui(h:p:=by intro e;cases e):p:=h
theorem Uh(h:p:=by simp):p:=h
theorem Uk(h:p:=by simp[World.setCell]):p:=h
theorem Uq(h:p:=by show w.heap.size<=(w.alloc _).heap.size;rw[zA];omega):p:=h
theorem Uj(h:p:=by rw[zA];omega):p:=h
theorem Ul(h:p:=by simp only[maxLen];omega):p:=h
theorem Un(h:p:=by rw[IntWalk.i64_in]<;>omega):p:=h
theorem Um(h:p:=by simp[Value.oneCell']):p:=h
theorem Uw(h:p:=by show w.heap.size<(w.alloc _).heap.size;rw[zA];omega):p:=h
theorem Xn(h:p:=by have M:=zt (w':=a) ah.o fun g I=>f.block g (zP ah.o g I).2;rw[<-V.o]at M ⊢;exact M):p:=h
theorem Ux(h:p:=by have:=aJ.o;have:=aK.o;have:=aV.o;simp only[Dr,D8];omega):p:=h
theorem Ut(h:p:=by have:=c.o.size;simp at this ⊢;omega):p:=h
theorem Xc(h:p:=by injection e with J ai;subst J;exact⟨rfl,rfl,rfl⟩):p:=h
theorem Xd(h:p:=by have:=(List.getElem?_eq_some_iff.1 a).1;omega):p:=h
theorem Xe(h:p:=by show _<=(a.alloc _).heap.size;rw[zA];omega):p:=h
theorem Up(h:p:=by simpa using b):p:=h
theorem Vz(h:p:=by simpa using List.all_eq_true.1 r n (DataW.weights_mem_each (j:=1) (t:=23) rfl rfl n R)):p:=h
theorem Ur(h:p:=by simpa using a):p:=h
theorem Us(h:p:=by decide+kernel):p:=h
theorem Xf(h:p:=by have:=i.size;rw[zA]at this;omega):p:=h
theorem Uu(h:p:=by show k≠g;exact a):p:=h
theorem Xo(h:p:=by have:=y.size;rw[zA]at this;omega):p:=h
theorem Kv(h:p:=by rw[Yr,Yr];exact am.join (bf.o.hs.keep fun g W aI=>f.off.block aI (by omega))):p:=h
theorem Uo(h:p:=by cases a):p:=h
theorem Ka(h:p:=by have:=(List.getElem?_eq_some_iff.1 c).1;omega):p:=h
theorem Gk(h:p:=by simpa using Ds (w.alloc (qQ b p.wa.length c0 d p.funcs.length c1)) (jM 7 op n s a tc.length c)):p:=h
theorem Vg(h:p:=by rw[<-q.o,uY n.o (by rw[i.o];rfl)]):p:=h
theorem Kb(h:p:=by obtain⟨m,d⟩:=u;exact DataW.trod_lt m _ _ _ d):p:=h
theorem Kc(h:p:=by obtain⟨m,d⟩:=y;exact DataW.trod_lt m _ _ _ d):p:=h
theorem Xp(h:p:=by constructor<;>decide):p:=h
theorem Vh(h:p:=by rintro(⟨d,_⟩|⟨d,_⟩)<;>cases d):p:=h
theorem Kw(h:p:=by show wr.heap.size<=(wr.alloc _).heap.size;rw[zA];omega):p:=h
theorem Xg(h:p:=by have:=a.size;omega):p:=h
theorem Uy(h:p:=by simpa using c):p:=h
theorem Uz(h:p:=by simpa using d):p:=h
theorem Xa(h:p:=by have:=a.hB;omega):p:=h
theorem Kd(h:p:=by have:=a.hB;have:=a.hL;have:=a.lt;omega):p:=h
theorem Xh(h:p:=by rw[K.o,F.o];simp):p:=h
theorem Xi(h:p:=by rw[K.o,G.o];simp):p:=h
theorem Gl(h:p:=by show ¬XV .vals (τ g);rw[aV];exact kS (by intro e;cases e) (by intro e;cases e)):p:=h
theorem Gn(h:p:=by injection u with u;subst u;exact(d.block _ (by simp;omega)).trans (D7 _ _ _ a4)):p:=h
theorem Xv(h:p:=by have:=u.o.1.size;omega):p:=h
theorem Xw(h:p:=by show(50 :Int)≠0;decide):p:=h
theorem Xx(h:p:=by show q.length<=_;omega):p:=h
theorem Vi(h:p:=by rw[jd b (by decide)];decide):p:=h
theorem Xj(h:p:=by have:=hE.hB;omega):p:=h
theorem Gp(h:p:=by rw[yt,a,Dp (show ¬(0 :Int)≠0 by decide),b,Dp (show ¬(0 :Int)≠0 by decide),c]):p:=h
theorem Vj(h:p:=by simp[zn]at a;exact a.1.1.2):p:=h
theorem Ke(h:p:=by simpa using Array.mem_of_getElem? b):p:=h
theorem Kx(h:p:=by have:=(List.getElem?_eq_some_iff.1 b).1;omega):p:=h
theorem Gq(h:p:=by injection(show Value.int .i64 t=.int .i64 a from j)with _ m;exact m.symm):p:=h
theorem Ky(h:p:=by show g<(wr.alloc _).heap.size;rw[zA];exact E):p:=h
theorem Gr(h:p:=by rw[f];exact List.mem_append_left _ (Y3 _ (List.mem_singleton.2 rfl))):p:=h
theorem Xy(h:p:=by rw[aw.o];exact ar.o):p:=h
theorem Kz(h:p:=by have:=W.o.set.own;rw[V.o]at this;exact this):p:=h
theorem Xz(h:p:=by have:=(Z k z).1;omega):p:=h
theorem Va(h:p:=by rw[aI.o];exact aF.o):p:=h
theorem Gs(h:p:=by injection g with g;subst g;show w.heap.size<=w.heap.size+1+1+1;omega):p:=h
theorem Kf(h:p:=by have:=a.size;simp at this;omega):p:=h
theorem Kg(h:p:=by have:=d.size;simp at this;omega):p:=h
theorem Kh(h:p:=by have Q:=L.o;rw[ae]at Q;exact Q):p:=h
theorem Xk(h:p:=by rw[i.o];rfl):p:=h
theorem Ki(h:p:=by have:=J.size;simpa using this):p:=h
theorem Xq(h:p:=by exact s.o.2.1):p:=h
theorem Xr(h:p:=by exact s.o.2.2):p:=h
theorem Gt(h:p:=by rw[lR (g:=fJ tg) (fun c d=>jo tg c d _ _)];unfold qZ;omega):p:=h
theorem Vb(h:p:=by have:=h.lt;omega):p:=h
theorem Vk(h:p:=by show(0 :Int)<=_;decide):p:=h
theorem Xs(h:p:=by simpa using h):p:=h
theorem Kj(h:p:=by show k≠w.heap.size+1;omega):p:=h
theorem Kk(h:p:=by injection e with _ _ _;omega):p:=h
theorem Kl(h:p:=by show B<=W2.heap.size;omega):p:=h
theorem Vl(h:p:=by unfold maxLen;omega):p:=h
theorem Vn(h:p:=by show(_:Int)<=0;decide):p:=h
theorem Ja(h:p:=by rw[c];show(s.C++_).length=_;rw[Dr,D8]):p:=h
theorem Uv(h:p:=by cases e):p:=h
theorem Vo(h:p:=by simp at ak ⊢;omega):p:=h
theorem Jb(h:p:=by rw[<-y.o,uZ n.o (by rw[i.o];rfl)]):p:=h
theorem Jc(h:p:=by rw[<-J.o,uZ p.o (by rw[n.o];rfl)]):p:=h
theorem Jd(h:p:=by have:=(Z k z).1;have:=a4.o.hB;omega):p:=h
theorem Xt(h:p:=by exact s.o.1):p:=h
theorem Km(h:p:=by show vs.length<=_;omega):p:=h
theorem Je(h:p:=by unfold Addr.add;split<;>simp_all):p:=h
theorem Xb(h:p:=by simp at h):p:=h
theorem Vc(h:p:=by cases x<;>rfl):p:=h
theorem Gu(h:p:=by have:=aJ.o;have:=aK.o;(try simp only[Dr,D8]);omega):p:=h
theorem Vp(h:p:=by have:=aE.o;omega):p:=h
theorem Vq(h:p:=by have:=aI.o;omega):p:=h
theorem Jf(h:p:=by rw[zA];have:=u.o.1.size;omega):p:=h
theorem Vr(h:p:=by rw[<-ye e []];rfl):p:=h
theorem Jg(h:p:=by rw[List.length_dropLast];omega):p:=h
theorem Jh(h:p:=by simp only[maxLen]at s;omega):p:=h
theorem Kn(h:p:=by simp[World.frozen?,a]):p:=h
theorem Ko(h:p:=by rw[aw.o];exact aG.o):p:=h
theorem Ji(h:p:=by simp;have:=K.o.1.size;omega):p:=h
theorem Jj(h:p:=by have:=x.env.hB;rw[zA];omega):p:=h
theorem Kp(h:p:=by rw[aI.o];exact aZ.o):p:=h
theorem Gv(h:p:=by rw[k];exact Y3 _ (List.mem_singleton.2 rfl)):p:=h
theorem Gw(h:p:=by rw[y];exact Y3 _ (List.mem_singleton.2 rfl)):p:=h
theorem Jk(h:p:=by show B<=wr.heap.size;omega):p:=h
theorem Gx(h:p:=by show _<(a.alloc _).heap.size;rw[zA];omega):p:=h
theorem Gy(h:p:=by rw[World.cell?_alloc_past _ _ _ aa];exact M):p:=h
theorem Vd(h:p:=by rw[hx];rfl):p:=h
theorem Jl(h:p:=by rw[<-Ya,vC,Dr,V.o];exact aQ):p:=h
theorem Gz(h:p:=by rw[World.cell?_alloc_past _ _ _ T];exact R):p:=h
theorem Ve(h:p:=by simp[qB,hv]):p:=h
theorem Ha(h:p:=by rw[l.o,xw ut R.o (by rw[P.o];rfl)];simp):p:=h
theorem Jm(h:p:=by have:=D.o.off.size;omega):p:=h
theorem Jn(h:p:=by have:=a.o.off.size;omega):p:=h
theorem Jo(h:p:=by have:=bz.o;have:=V.o;omega):p:=h
theorem Jp(h:p:=by have:=l.o.cur.size;omega):p:=h
theorem Vs(h:p:=by simpa using e):p:=h
theorem Hb(h:p:=by rw[show zq [44] r=false from a];decide):p:=h
theorem Xl(h:p:=by cases c):p:=h
theorem Hc(h:p:=by have:=kE bk.o;rw[L.o]at this;exact this):p:=h
theorem Jq(h:p:=by show 0+F<=2000000;omega):p:=h
theorem Hd(h:p:=by have:=c.hB;have:=c.hL;have:=c.lt;omega):p:=h
theorem He(h:p:=by have:=l.hB;have:=l.hL;have:=l.lt;omega):p:=h
theorem Hf(h:p:=by have:=k.hB;have:=k.hL;have:=k.lt;omega):p:=h
theorem Hg(h:p:=by show w.heap.size≠w.heap.size+1;omega):p:=h
theorem Hh(h:p:=by have e:k=f:=e;subst e;exact a.apart b):p:=h
theorem Kq(h:p:=by cases tc;simp_all):p:=h
theorem Xu(h:p:=by cases b):p:=h
theorem Vf(h:p:=by simp[qB]):p:=h
theorem Hi(h:p:=by show w.heap.size<b.heap.size;omega):p:=h
theorem Jr(h:p:=by rw[jz p.o,s.o,n.o];rfl):p:=h
theorem Js(h:p:=by rw[jz n.o,s.o,i.o];rfl):p:=h
theorem Vt(h:p:=by rw[Du p];rfl):p:=h
theorem Vu(h:p:=by rw[Yg];omega):p:=h
theorem Hj(h:p:=by first|exact ay|(show B<=_;omega)):p:=h
theorem Jt(h:p:=by have:=(Z k z).2;omega):p:=h
theorem Hk(h:p:=by show(p.wa.map _).length=_;rw[Yh]):p:=h
theorem Hl(h:p:=by unfold fN;rw[List.zip_nil_right]):p:=h
theorem Ju(h:p:=by unfold wrap32;omega):p:=h
theorem Jv(h:p:=by have:=h.2.2.2;omega):p:=h
theorem Kr(h:p:=by rw[qn];trivial):p:=h
theorem Vv(h:p:=by simp at c):p:=h
theorem Jw(h:p:=by rw[<-Ya,Dr,V.o];rfl):p:=h
theorem Hm(h:p:=by have Q:=N.o;rw[ah]at Q;exact Q):p:=h
theorem Jx(h:p:=by have:=bD.o.ln;omega):p:=h
theorem Hn(h:p:=by have:=u.o.pay;have:=ci.o;omega):p:=h
theorem Ks(h:p:=by rw[Du aC];rfl):p:=h
theorem Jy(h:p:=by have:=l.size;omega):p:=h
theorem Jz(h:p:=by have:=H.o.hB;omega):p:=h
theorem Ga(h:p:=by have:=bj.o;omega):p:=h
theorem Gb(h:p:=by have:=c.lt;omega):p:=h
theorem Ho(h:p:=by rw[b.o.all (by omega)];rfl):p:=h
theorem Hp(h:p:=by have:=a.did.off.size;omega):p:=h
theorem Vw(h:p:=by simp[f]):p:=h
theorem Kt(h:p:=by rw[jj];rfl):p:=h
theorem Xm(h:p:=by rfl):p:=h
theorem Gc(h:p:=by simpa using this):p:=h
theorem Gd(h:p:=by simpa using hi):p:=h
theorem Ge(h:p:=by rw[hno];decide):p:=h
theorem Ku(h:p:=by rw[g];omega):p:=h
theorem Gf(h:p:=by rw[Yr];exact am):p:=h
theorem Gg(h:p:=by simpa using I):p:=h
theorem Gh(h:p:=by simpa using A):p:=h
theorem Gi(h:p:=by simpa using r):p:=h
theorem Vx(h:p:=by cases A):p:=h
theorem Gj(h:p:=by rw[yM];omega):p:=h
theorem Vy(h:p:=by cases h):p:=h
end Go.Proofs.YthcmenajdcbnnaaGreatDoor
