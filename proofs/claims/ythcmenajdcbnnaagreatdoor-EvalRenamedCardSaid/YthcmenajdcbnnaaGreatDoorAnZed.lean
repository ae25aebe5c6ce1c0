import Derived.Test.YthcmenajdcbnnaaGreatDoorProg
import Derived.Lib.Hide
import Derived.Below
namespace Go.Proofs.YthcmenajdcbnnaaGreatDoor
open Go Go.RowKit
theorem Zr{n:Nat}:n<=n:=Nat.le_refl n
theorem Zb{L:Nat}{w:World}:Below L w w:=Below.refl L w
def Dk(p:Prop):Prop:=p
theorem Dk.o{p:Prop}(h:Dk p):p:=h
theorem U{p:Prop}(h:p):Dk p:=h
theorem Dl:type_of% @if_neg:=@if_neg
theorem Dm:type_of% @if_pos:=@if_pos
theorem Dn:type_of% @List.length_append:=@List.length_append
theorem Do:type_of% @And.intro:=@And.intro
theorem Dp:type_of% @List.length_cons:=@List.length_cons
theorem Dq:type_of% @heap_alloc_new:=@heap_alloc_new
theorem Dr:type_of% @Nat.le_trans:=@Nat.le_trans
theorem Dt:type_of% @Nat.le_of_eq:=@Nat.le_of_eq
theorem Du:type_of% @List.length_nil:=@List.length_nil
theorem Dv:type_of% @Bool.and_eq_true:=@Bool.and_eq_true
theorem Dw:type_of% @Nat.zero_le:=@Nat.zero_le
theorem Dx:type_of% @Below.heap_setCell:=@Below.heap_setCell
theorem Dy:type_of% @Nat.le_refl:=@Nat.le_refl
theorem Dz:type_of% @List.getElem?_eq_getElem:=@List.getElem?_eq_getElem
theorem D1:type_of% @Below.refl:=@Below.refl
theorem D2:type_of% @List.length_singleton:=@List.length_singleton
theorem D3:type_of% @Below.heap_alloc:=@Below.heap_alloc
theorem D4:type_of% @World.cell?_of_block:=@World.cell?_of_block
theorem D5:type_of% @Nat.le_of_lt:=@Nat.le_of_lt
theorem D6:type_of% @Nat.lt_of_lt_of_le:=@Nat.lt_of_lt_of_le
theorem D7:type_of% @List.append_assoc:=@List.append_assoc
theorem D8:type_of% @List.append_nil:=@List.append_nil
theorem D9:type_of% @List.take_of_length_le:=@List.take_of_length_le
theorem Yb:type_of% @List.map_cons:=@List.map_cons
theorem Yc:type_of% @List.length_take:=@List.length_take
theorem Yd:type_of% @List.length_map:=@List.length_map
theorem Ye:type_of% @List.mem_of_getElem?:=@List.mem_of_getElem?
theorem Yf:type_of% @List.map_append:=@List.map_append
theorem Yg:type_of% @Bool.eq_iff_iff:=@Bool.eq_iff_iff
theorem Yi:type_of% @List.getElem?_append_right:=@List.getElem?_append_right
theorem Yj:type_of% @List.eq_nil_of_length_eq_zero:=@List.eq_nil_of_length_eq_zero
theorem Yk:type_of% @List.getD_eq_getElem?_getD:=@List.getD_eq_getElem?_getD
theorem Yl:type_of% @List.getElem?_map:=@List.getElem?_map
theorem Ym:type_of% @World.ownsRow_nil:=@World.ownsRow_nil
theorem Yn:type_of% @List.getElem?_append_left:=@List.getElem?_append_left
theorem Yo:type_of% @Nat.zero_add:=@Nat.zero_add
theorem Yp:type_of% @List.reverse_append:=@List.reverse_append
theorem Yq:type_of% @List.length_drop:=@List.length_drop
theorem Yr:type_of% @List.take_add_one:=@List.take_add_one
theorem Ys:type_of% @List.cons_append:=@List.cons_append
theorem Yt:type_of% @Nat.add_sub_cancel:=@Nat.add_sub_cancel
theorem Yu:type_of% @List.take_zero:=@List.take_zero
theorem Yv:type_of% @List.all_eq_true:=@List.all_eq_true
theorem Yw:type_of% @List.mem_append_right:=@List.mem_append_right
theorem Yx:type_of% @Nat.sub_self:=@Nat.sub_self
theorem Yy:type_of% @List.nil_append:=@List.nil_append
theorem Yz:type_of% @List.mem_cons_of_mem:=@List.mem_cons_of_mem
theorem Y2:type_of% @List.flatMap_cons:=@List.flatMap_cons
theorem Y3:type_of% @List.take_succ_cons:=@List.take_succ_cons
theorem Y4:type_of% @List.mem_cons_self:=@List.mem_cons_self
theorem Y5:type_of% @List.getElem?_take:=@List.getElem?_take
theorem Y6:type_of% @Nat.min_eq_left:=@Nat.min_eq_left
theorem Y7:type_of% @List.cons.injEq:=@List.cons.injEq
theorem Y8:type_of% @List.any_cons:=@List.any_cons
theorem Y9:type_of% @List.take_length:=@List.take_length
theorem Ca:type_of% @List.all_cons:=@List.all_cons
theorem Cb:type_of% @Bool.or_eq_false_iff:=@Bool.or_eq_false_iff
theorem Cc:type_of% @Nat.lt_or_ge:=@Nat.lt_or_ge
theorem Cd:type_of% @Nat.le_succ:=@Nat.le_succ
theorem Ce:type_of% @List.length_set:=@List.length_set
theorem Cf:type_of% @List.getElem?_set:=@List.getElem?_set
theorem Cg:type_of% @List.mem_cons:=@List.mem_cons
theorem Ch:type_of% @List.any_eq_false:=@List.any_eq_false
theorem Ci:type_of% @Bool.eq_false_iff:=@Bool.eq_false_iff
theorem Cj:type_of% @List.map_nil:=@List.map_nil
theorem Ck:type_of% @Nat.succ_pos:=@Nat.succ_pos
theorem Cl:type_of% @Nat.add_assoc:=@Nat.add_assoc
theorem Cm:type_of% @List.length_replicate:=@List.length_replicate
theorem Cn:type_of% @List.headD_cons:=@List.headD_cons
theorem Co:type_of% @Classical.choose_spec:=@Classical.choose_spec
theorem Cp:type_of% @List.not_mem_nil:=@List.not_mem_nil
theorem Cq:type_of% @List.flatMap_append:=@List.flatMap_append
theorem Cr:type_of% @Option.some.inj:=@Option.some.inj
theorem Cs:type_of% @List.takeWhile_prefix:=@List.takeWhile_prefix
theorem Ct:type_of% @List.take_append_drop:=@List.take_append_drop
theorem Cu:type_of% @List.singleton_append:=@List.singleton_append
abbrev Cv(v:Value)(w:World)(e:Ending)(x:World):=e=.returned v/\Below w.heap.size w x
abbrev Cw(v:Value)(w:World)(e:Ending)(x:World):=e=.returned v/\w=x
abbrev Cx(w x:World):=Below w.heap.size w x
abbrev Cy:=Calls Tryz.prog
instance:CoeDep Unit () Value:=⟨.slice none 0 0⟩
instance(a b:Nat):CoeDep (Nat×Nat) (a,b) Value:=⟨.pointer (some ⟨a,b,none⟩)⟩
instance:Coe Bool Value:=⟨.bool⟩
instance:Coe ByteArray Value:=⟨.string⟩
instance(a:Option Addr)(b c:Nat):CoeDep (Option Addr×Nat×Nat) (a,b,c) Value:=⟨.slice a b c⟩
instance:Coe Int Value:=⟨.int .i64⟩
instance(a b:Nat):CoeDep (Nat×Nat) (a,b) Addr:=⟨⟨a,b,none⟩⟩
universe u
theorem Cz{α:Sort u}(a:α):∃z,a=z:=⟨a,rfl⟩
theorem C0(p:Prop)(h:p):Dk p:=h
abbrev C2:=ByteArray
abbrev C3:=World
abbrev C4:=Value
variable{p:Prop}
theorem O(h:p:=by omega):p:=h
theorem Up(h:p:=by decide):p:=h
theorem Uq(h:p:=by simp;omega):p:=h
theorem Ur(h:p:=by simp):p:=h
theorem Us(h:p:=by intro e;cases e):p:=h
theorem Ut(h:p:=by rw[zA];omega):p:=h
theorem Uu(h:p:=by simp[World.setCell]):p:=h
theorem Xa(h:p:=by show w.heap.size<=(w.alloc _).heap.size;rw[zA];omega):p:=h
theorem Uv(h:p:=by simp only[maxLen];omega):p:=h
theorem Ux(h:p:=by rw[IntWalk.i64_in]<;>omega):p:=h
theorem Uw(h:p:=by simp[Value.oneCell']):p:=h
theorem Xf(h:p:=by show w.heap.size<(w.alloc _).heap.size;rw[zA];omega):p:=h
theorem Xu(h:p:=by have M:=zv (w':=a) ah.o fun g I=>f.block g (zR ah.o g I).2;rw[<-V.o]at M ⊢;exact M):p:=h
theorem Xg(h:p:=by have:=aJ.o;have:=aK.o;have:=aV.o;simp only[Dn,D2];omega):p:=h
theorem Xc(h:p:=by have:=c.o.size;simp at this ⊢;omega):p:=h
theorem Vb(h:p:=by have:=a.size;first|exact this|exact Dr (Dr (Cd _) (Dt (zA _ _).symm)) this):p:=h
theorem Uy(h:p:=by simpa using a):p:=h
theorem Xl(h:p:=by have:=(List.getElem?_eq_some_iff.1 a).1;omega):p:=h
theorem Uz(h:p:=by simpa using b):p:=h
theorem Xm(h:p:=by show _<=(a.alloc _).heap.size;rw[zA];omega):p:=h
theorem Xj(h:p:=by have:=a.size;rw[zA]at this;omega):p:=h
theorem Xn(h:p:=by have:=i.size;rw[zA]at this;omega):p:=h
theorem Xd(h:p:=by show k≠g;exact a):p:=h
theorem Gv(h:p:=by simp only[Cg,Cp,or_false]at A;rcases A with rfl|rfl|rfl|rfl <;>(first|decide|(simp only[ByteArray.size_append,zP,Dp,Du];omega))):p:=h
theorem Xv(h:p:=by have:=y.size;rw[zA]at this;omega):p:=h
theorem Ky(h:p:=by rw[Yp,Yp];exact am.join (bf.o.hs.keep fun g W aI=>f.off.block aI (by omega))):p:=h
theorem Xh(h:p:=by have:=a.size;omega):p:=h
theorem Xe(h:p:=by simpa using c):p:=h
theorem Ki(h:p:=by have:=(List.getElem?_eq_some_iff.1 c).1;omega):p:=h
theorem Kj(h:p:=by have:=(List.getElem?_eq_some_iff.1 b).1;omega):p:=h
theorem Vq(h:p:=by rw[<-q.o,us n.o (by rw[i.o];rfl)]):p:=h
theorem Xw(h:p:=by constructor<;>decide):p:=h
theorem Vr(h:p:=by rintro(⟨d,_⟩|⟨d,_⟩)<;>cases d):p:=h
theorem Kz(h:p:=by show wr.heap.size<=(wr.alloc _).heap.size;rw[zA];omega):p:=h
theorem Xb(h:p:=by cases a):p:=h
theorem Xk(h:p:=by have:=a.hB;omega):p:=h
theorem Xi(h:p:=by simpa using d):p:=h
theorem Kk(h:p:=by have:=a.hB;have:=a.hL;have:=a.lt;omega):p:=h
theorem Xo(h:p:=by rw[K.o,F.o];simp):p:=h
theorem Xp(h:p:=by rw[K.o,G.o];simp):p:=h
theorem Gw(h:p:=by show ¬XV .vals (τ g);rw[aV];exact ke (by intro e;cases e) (by intro e;cases e)):p:=h
theorem Gx(h:p:=by injection u with u;subst u;exact(d.block _ (by simp;omega)).trans (D3 _ _ _ a4)):p:=h
theorem Vc(h:p:=by have:=u.o.1.size;omega):p:=h
theorem Vd(h:p:=by show(50 :Int)≠0;decide):p:=h
theorem Ve(h:p:=by show q.length<=_;omega):p:=h
theorem Vs(h:p:=by rw[jg b (by decide)];decide):p:=h
theorem Xq(h:p:=by have:=hE.hB;omega):p:=h
theorem Gy(h:p:=by rw[yn,a,Dl (show ¬(0 :Int)≠0 by decide),b,Dl (show ¬(0 :Int)≠0 by decide),c]):p:=h
theorem Ja(h:p:=by show _<(World.alloc _ _).heap.size;rw[zA];omega):p:=h
theorem Vt(h:p:=by simp[zj]at a;exact a.1.1.2):p:=h
theorem Gz(h:p:=by injection(show Value.int .i64 t=.int .i64 a from j)with _ m;exact m.symm):p:=h
theorem Jb(h:p:=by show g<(wr.alloc _).heap.size;rw[zA];exact E):p:=h
theorem Ha(h:p:=by rw[f];exact List.mem_append_left _ (Yw _ (List.mem_singleton.2 rfl))):p:=h
theorem Vf(h:p:=by rw[aw.o];exact ar.o):p:=h
theorem Jc(h:p:=by have:=W.o.set.own;rw[V.o]at this;exact this):p:=h
theorem Vg(h:p:=by have:=(Z k z).1;omega):p:=h
theorem Vh(h:p:=by rw[aI.o];exact aF.o):p:=h
theorem Hb(h:p:=by injection g with g;subst g;show w.heap.size<=w.heap.size+1+1+1;omega):p:=h
theorem Kl(h:p:=by have:=a.size;simp at this;omega):p:=h
theorem Km(h:p:=by have:=d.size;simp at this;omega):p:=h
theorem Kn(h:p:=by have Q:=L.o;rw[ae]at Q;exact Q):p:=h
theorem Xr(h:p:=by rw[i.o];rfl):p:=h
theorem Ko(h:p:=by have:=J.size;simpa using this):p:=h
theorem Xx(h:p:=by exact s.o.2.1):p:=h
theorem Xy(h:p:=by exact s.o.2.2):p:=h
theorem Hc(h:p:=by rw[lC (g:=d0 tg) (fun c d=>jt tg c d _ _)];unfold qV;omega):p:=h
theorem Vi(h:p:=by have:=h.lt;omega):p:=h
theorem Vu(h:p:=by show(0 :Int)<=_;decide):p:=h
theorem Kp(h:p:=by show k≠w.heap.size+1;omega):p:=h
theorem Kq(h:p:=by injection e with _ _ _;omega):p:=h
theorem Vv(h:p:=by simp[World.frozen?,a]):p:=h
theorem Vw(h:p:=by unfold maxLen;omega):p:=h
theorem Vx(h:p:=by show(_:Int)<=0;decide):p:=h
theorem Jd(h:p:=by rw[c];show(s.C++_).length=_;rw[Dn,D2]):p:=h
theorem Xz(h:p:=by decide+kernel):p:=h
theorem Vy(h:p:=by simp at ak ⊢;omega):p:=h
theorem Je(h:p:=by rw[<-y.o,ut n.o (by rw[i.o];rfl)]):p:=h
theorem Jf(h:p:=by rw[<-J.o,ut p.o (by rw[n.o];rfl)]):p:=h
theorem Jg(h:p:=by have:=(Z k z).1;have:=a4.o.hB;omega):p:=h
theorem Va(h:p:=by exact s.o.1):p:=h
theorem Kr(h:p:=by show vs.length<=_;omega):p:=h
theorem Jh(h:p:=by unfold Addr.add;split<;>simp_all):p:=h
theorem Vj(h:p:=by simpa using h):p:=h
theorem Hd(h:p:=by have:=aJ.o;have:=aK.o;(try simp only[Dn,D2]);omega):p:=h
theorem Ji(h:p:=by rw[zA];have:=u.o.1.size;omega):p:=h
theorem Vz(h:p:=by rw[<-yv e []];rfl):p:=h
theorem He(h:p:=by have:=WP m';have:q1 (m'+1)=2*q1 m'+8:=rfl;omega):p:=h
theorem Jj(h:p:=by rw[List.length_dropLast];omega):p:=h
theorem Xs(h:p:=by simp at h):p:=h
theorem Jk(h:p:=by simp only[maxLen]at s;omega):p:=h
theorem Ks(h:p:=by rw[aw.o];exact aG.o):p:=h
theorem Jl(h:p:=by simp;have:=K.o.1.size;omega):p:=h
theorem Jm(h:p:=by have:=x.env.hB;rw[zA];omega):p:=h
theorem Kt(h:p:=by rw[aI.o];exact aZ.o):p:=h
theorem Hf(h:p:=by rw[k];exact Yw _ (List.mem_singleton.2 rfl)):p:=h
theorem Hg(h:p:=by rw[y];exact Yw _ (List.mem_singleton.2 rfl)):p:=h
theorem Jn(h:p:=by have:=g.o.size;rw[zA];omega):p:=h
theorem Jo(h:p:=by show B<=wr.heap.size;omega):p:=h
theorem Hh(h:p:=by show _<(a.alloc _).heap.size;rw[zA];omega):p:=h
theorem Hi(h:p:=by rw[World.cell?_alloc_past _ _ _ aa];exact M):p:=h
theorem Ka(h:p:=by cases x<;>rfl):p:=h
theorem Vk(h:p:=by rw[hx];rfl):p:=h
theorem Jp(h:p:=by rw[<-D7,vY,Dn,V.o];exact aQ):p:=h
theorem Hj(h:p:=by rw[World.cell?_alloc_past _ _ _ T];exact R):p:=h
theorem Vl(h:p:=by simp[qA,hv]):p:=h
theorem Hk(h:p:=by rw[l.o,yH vk R.o (by rw[P.o];rfl)];simp):p:=h
theorem Jq(h:p:=by have:=D.o.off.size;omega):p:=h
theorem Jr(h:p:=by have:=a.o.off.size;omega):p:=h
theorem Js(h:p:=by have:=bz.o;have:=V.o;omega):p:=h
theorem Jt(h:p:=by have:=l.o.cur.size;omega):p:=h
theorem Hl(h:p:=by rw[show zt [44] r=false from a];decide):p:=h
theorem Hm(h:p:=by have:=c.sz;have:=c.hm;have:=c.hm2;omega):p:=h
theorem Ju(h:p:=by show 0+F<=2000000;omega):p:=h
theorem Hn(h:p:=by have:=c.hB;have:=c.hL;have:=c.lt;omega):p:=h
theorem Ho(h:p:=by have:=l.hB;have:=l.hL;have:=l.lt;omega):p:=h
theorem Hp(h:p:=by have:=k.hB;have:=k.hL;have:=k.lt;omega):p:=h
theorem Hq(h:p:=by show w.heap.size≠w.heap.size+1;omega):p:=h
theorem Vn(h:p:=by simp[qA]):p:=h
theorem Hr(h:p:=by show w.heap.size<b.heap.size;omega):p:=h
theorem Jv(h:p:=by rw[kG p.o,s.o,n.o];rfl):p:=h
theorem Jw(h:p:=by rw[kG n.o,s.o,i.o];rfl):p:=h
theorem Kb(h:p:=by rw[Ds p];rfl):p:=h
theorem Kc(h:p:=by rw[Yc];omega):p:=h
theorem Hs(h:p:=by first|exact ax|(show B<=_;omega)):p:=h
theorem Ku(h:p:=by simpa using e):p:=h
theorem Jx(h:p:=by have:=(Z k z).2;omega):p:=h
theorem Jy(h:p:=by have:=i.o.lt;omega):p:=h
theorem Jz(h:p:=by have:=s.o.lt;omega):p:=h
theorem Ga(h:p:=by unfold wrap32;omega):p:=h
theorem Gb(h:p:=by have:=h.2.2.2;omega):p:=h
theorem Kd(h:p:=by simp at c):p:=h
theorem Vo(h:p:=by cases b):p:=h
theorem Gc(h:p:=by rw[<-D7,Dn,V.o];rfl):p:=h
theorem Ht(h:p:=by have Q:=N.o;rw[ah]at Q;exact Q):p:=h
theorem Gd(h:p:=by have:=c.size;omega):p:=h
theorem Kv(h:p:=by rw[Ds aC];rfl):p:=h
theorem Hu(h:p:=by have:=c.sz;have:=c.hm2;omega):p:=h
theorem Hv(h:p:=by have:=f.o.size;rw[zA];omega):p:=h
theorem Hw(h:p:=by have:=y.o.size;rw[zA];omega):p:=h
theorem Ge(h:p:=by have:=G.o.hB;omega):p:=h
theorem Gf(h:p:=by have:=l.size;omega):p:=h
theorem Gg(h:p:=by have:=bj.o;omega):p:=h
theorem Gh(h:p:=by have:=c.lt;omega):p:=h
theorem Hx(h:p:=by rw[b.o.all (by omega)];rfl):p:=h
theorem Hy(h:p:=by rw[Nat.pow_succ]at h;omega):p:=h
theorem Hz(h:p:=by have:=a.did.off.size;omega):p:=h
theorem Gi(h:p:=by have:=aX.o;omega):p:=h
theorem Gj(h:p:=by have:=aW.o;omega):p:=h
theorem Ke(h:p:=by simp[f]):p:=h
theorem Kw(h:p:=by rw[jo];rfl):p:=h
theorem Xt(h:p:=by rfl):p:=h
theorem Gk(h:p:=by simpa using this):p:=h
theorem Gl(h:p:=by simpa using aZ.o):p:=h
theorem Gn(h:p:=by simpa using hi):p:=h
theorem Gp(h:p:=by show k≠g;omega):p:=h
theorem Gq(h:p:=by rw[hno];decide):p:=h
theorem Kf(h:p:=by cases c):p:=h
theorem Kx(h:p:=by rw[g];omega):p:=h
theorem Vp(h:p:=by rw[zO]):p:=h
theorem Gr(h:p:=by rw[Yp];exact am):p:=h
theorem Gs(h:p:=by simpa using I):p:=h
theorem Gt(h:p:=by simpa using aa):p:=h
theorem Gu(h:p:=by rw[y7];omega):p:=h
theorem Kg(h:p:=by cases h):p:=h
theorem Kh(h:p:=by cases e):p:=h
end Go.Proofs.YthcmenajdcbnnaaGreatDoor
