import Derived.Below
/- Two short names. -/
import Derived.Below
namespace Go.Proofs.YthcmenajdcbnnaaGreatDoor
open Go Go.RowKit
theorem Zr{n:Nat}:n<=n:=Nat.le_refl n
theorem Zb{L:Nat}{w:World}:Below L w w:=Below.refl L w
variable{p:Prop}
theorem I7(h:p:=by omega):p:=h
theorem I9(h:p:=by simp;omega):p:=h
theorem I8(h:p:=by decide):p:=h
theorem Ib(h:p:=by intro e;cases e):p:=h
theorem Ia(h:p:=by simp):p:=h
theorem Ic(h:p:=by rw[zA];omega):p:=h
theorem Ie(h:p:=by rw[IntWalk.i64_in] <;> omega):p:=h
theorem Id(h:p:=by simp[World.setCell]):p:=h
theorem IE(h:p:=by have:=ho.size;first|exact this|exact Nat.le_trans (Nat.le_trans (Nat.le_succ _) (Nat.le_of_eq (zA _ _).symm)) this):p:=h
theorem Im(h:p:=by show w.heap.size<=(w.alloc _).heap.size;rw[zA];omega):p:=h
theorem If(h:p:=by simp only[maxLen];omega):p:=h
theorem Ij(h:p:=by have:=c.out.size;simp at this ⊢;omega):p:=h
theorem Ig(h:p:=by simp[Value.oneCell']):p:=h
theorem It(h:p:=by show _<=(a.alloc _).heap.size;rw[zA];omega):p:=h
theorem Ih(h:p:=by simpa using b):p:=h
theorem U0(h:p:=by simp only[List.mem_cons,List.not_mem_nil,or_false]at hs;rcases hs with rfl|rfl|rfl|rfl <;>(first|decide|(simp only[ByteArray.size_append,zM,List.length_cons,List.length_nil];omega))):p:=h
theorem Qp(h:p:=by rw[List.reverse_append,List.reverse_append];exact hs3.join (HE.out.hs.keep fun g hg hl=>hl3.off.block hl (by omega))):p:=h
theorem Ip(h:p:=by have:=ho.size;rw[zA]at this;omega):p:=h
theorem Iu(h:p:=by have:=hb2.size;rw[zA]at this;omega):p:=h
theorem IR(h:p:=by show w.heap.size<(w.alloc _).heap.size;rw[zA];omega):p:=h
theorem Ik(h:p:=by show k≠g;exact a):p:=h
theorem Iv(h:p:=by rw[Lib.cell_of_heap l];rfl):p:=h
theorem Qq(h:p:=by rw[c];show(s.C++_).length=_;rw[List.length_append,List.length_singleton]):p:=h
theorem Il(h:p:=by simpa using c):p:=h
theorem Ii(h:p:=by cases a):p:=h
theorem IS(h:p:=by have:=h.hB;have:=h.hL;have:=h.lt;omega):p:=h
theorem Qb(h:p:=by have:=(List.getElem?_eq_some_iff.1 c).1;omega):p:=h
theorem Qc(h:p:=by have:=(List.getElem?_eq_some_iff.1 a).1;omega):p:=h
theorem Iw(h:p:=by rw[J.out,F.out];simp):p:=h
theorem Ix(h:p:=by rw[J.out,G.out];simp):p:=h
theorem U1(h:p:=by first|exact HS5.out.below (hbd.mono (by omega)) (by omega)|exact HS5.out.below Zb (by omega)):p:=h
theorem U2(h:p:=by injection I with I;subst I;exact(H.block _ (by simp;omega)).trans (Below.heap_alloc _ _ _ aC)):p:=h
theorem Iz(h:p:=by have:=HM1.out.lt;omega):p:=h
theorem In(h:p:=by decide+kernel):p:=h
theorem IA(h:p:=by constructor <;> decide):p:=h
theorem IF(h:p:=by have:=HX2.out.1.size;omega):p:=h
theorem U3(h:p:=by rw[h];exact List.mem_append_left _ (List.mem_append_right _ (List.mem_singleton.2 rfl))):p:=h
theorem IG(h:p:=by rw[HVX.out];exact HR2.out):p:=h
theorem IT(h:p:=by rintro(⟨d,_⟩|⟨d,_⟩) <;> cases d):p:=h
theorem IU(h:p:=by have:=HO1.out.size;rw[zA];omega):p:=h
theorem Qr(h:p:=by show wr.heap.size<=(wr.alloc _).heap.size;rw[zA];omega):p:=h
theorem U4(h:p:=by rw[vL,b,if_neg (show ¬(0 :Int)≠0 by decide),c,if_neg (show ¬(0 :Int)≠0 by decide),d]):p:=h
theorem IH(h:p:=by rw[List.length_take];omega):p:=h
theorem Iq(h:p:=by have:=a.hB;omega):p:=h
theorem Io(h:p:=by simpa using a):p:=h
theorem Qd(h:p:=by have:=a.hB;have:=a.hL;have:=a.lt;omega):p:=h
theorem Iy(h:p:=by have:=HD.out;omega):p:=h
theorem U5(h:p:=by show ¬XV .vals (τ g);rw[aS];exact ji (by intro e;cases e) (by intro e;cases e)):p:=h
theorem II(h:p:=by show(50 :Int)≠0;decide):p:=h
theorem IJ(h:p:=by show q.length<=_;omega):p:=h
theorem Ir(h:p:=by simpa using d):p:=h
theorem Qs(h:p:=by show _<(World.alloc _ _).heap.size;rw[zA];omega):p:=h
theorem Qt(h:p:=by rw[<-r.out,brkSs_at p.out (by rw[i.out];rfl)]):p:=h
theorem Qu(h:p:=by rw[<-Q.out,endSs_at z.out (by rw[i.out];rfl)]):p:=h
theorem Qv(h:p:=by have:=(List.getElem?_eq_some_iff.1 b).1;omega):p:=h
theorem U6(h:p:=by injection(show Value.int .i64 t=.int .i64 a from j)with _ m;exact m.symm):p:=h
theorem Qw(h:p:=by show g<(wr.alloc _).heap.size;rw[zA];exact E):p:=h
theorem U7(h:p:=by rw[gB_len (g:=lenTs thn) (fun c d=>jL thn c d _ _)];unfold qA;omega):p:=h
theorem U8(h:p:=by have:=HO2.out.size;show _<=(World.alloc _ _).heap.size;rw[zA];omega):p:=h
theorem U9(h:p:=by injection h with h;subst h;show w.heap.size<=w.heap.size+1+1+1;omega):p:=h
theorem Qe(h:p:=by have:=a.size;simp at this;omega):p:=h
theorem Qf(h:p:=by have h:=K.out;rw[X]at h;exact h):p:=h
theorem Ua(h:p:=by rw[k];exact List.mem_append_right _ (List.mem_singleton.2 rfl)):p:=h
theorem IV(h:p:=by simp at hacc9 ⊢;omega):p:=h
theorem IK(h:p:=by have:=a.lt;omega):p:=h
theorem IW(h:p:=by show(0 :Int)<=_;decide):p:=h
theorem Qg(h:p:=by show k≠w.heap.size+1;omega):p:=h
theorem IX(h:p:=by unfold maxLen;omega):p:=h
theorem Qh(h:p:=by rw[HVX.out];exact HR3.out):p:=h
theorem IY(h:p:=by show(_:Int)<=0;decide):p:=h
theorem Qi(h:p:=by rw[Lib.cell_of_heap aj];rfl):p:=h
theorem IZ(h:p:=by have:=a.size;omega):p:=h
theorem Q0(h:p:=by exact HPRE.out.2.1):p:=h
theorem Q1(h:p:=by exact HPRE.out.2.2):p:=h
theorem Qx(h:p:=by rw[zA];have:=HX2.out.1.size;omega):p:=h
theorem Qy(h:p:=by simpa using Array.mem_of_getElem? b):p:=h
theorem Qj(h:p:=by show vs.length<=_;omega):p:=h
theorem Ub(h:p:=by have:=szD_gt m';have:szD (m'+1)=2*szD m'+8:=rfl;omega):p:=h
theorem IL(h:p:=by rw[i.out];rfl):p:=h
theorem Qz(h:p:=by rw[List.reverse_append];exact hs3):p:=h
theorem Uc(h:p:=by rw[List.length_append,List.length_singleton];omega):p:=h
theorem QA(h:p:=by have:=HO8.out.size;rw[zA];omega):p:=h
theorem Qk(h:p:=by have:=HM2.out.lt;omega):p:=h
theorem Q2(h:p:=by exact HPRE.out.1):p:=h
theorem IM(h:p:=by simpa using h):p:=h
theorem Ud(h:p:=by rw[r.out,xJ vg HY.out (by rw[T.out];rfl)];simp):p:=h
theorem Q3(h:p:=by rw[<-xn e []];rfl):p:=h
theorem QB(h:p:=by rw[List.length_dropLast];omega):p:=h
theorem QC(h:p:=by have:=HP6.out.cur.size;omega):p:=h
theorem QD(h:p:=by simp only[maxLen]at q;omega):p:=h
theorem QE(h:p:=by have:=HD.out;simpa using this):p:=h
theorem QF(h:p:=by rw[vq z.out,K.out,i.out];rfl):p:=h
theorem QG(h:p:=by have:=C.out.off.size;omega):p:=h
theorem QH(h:p:=by have:=a.out.off.size;omega):p:=h
theorem QI(h:p:=by rw[zA];exact Nat.le_refl _):p:=h
theorem Ql(h:p:=by have:=a.2.2.2;omega):p:=h
theorem Ue(h:p:=by show _<(a.alloc _).heap.size;rw[zA];omega):p:=h
theorem Q5(h:p:=by cases x <;> rfl):p:=h
theorem IN(h:p:=by rw[hx];rfl):p:=h
theorem Uf(h:p:=by rw[List.length_drop,<-Lib.size_eq];omega):p:=h
theorem Ug(h:p:=by rw[World.cell?_alloc_past _ _ _ R];exact P):p:=h
theorem Uh(h:p:=by rw[World.cell?_alloc_past _ _ _ X];exact L):p:=h
theorem JZq(h:p:=by simp[zh,hv]):p:=h
theorem Ui(h:p:=by rw[show ze [44] r=false from a];decide):p:=h
theorem Uj(h:p:=by rw[<-Lib.size_eq];exact Nat.le_refl _):p:=h
theorem QJ(h:p:=by show 0+F<=2000000;omega):p:=h
theorem Uk(h:p:=by have:=c.hB;have:=c.hL;have:=c.lt;omega):p:=h
theorem Ul(h:p:=by have:=k.hB;have:=k.hL;have:=k.lt;omega):p:=h
theorem Um(h:p:=by show w.heap.size≠w.heap.size+1;omega):p:=h
theorem QK(h:p:=by have:=j.out.size;omega):p:=h
theorem QL(h:p:=by have:=HM8.out.lt;omega):p:=h
theorem IP(h:p:=by simp[zh]):p:=h
theorem QM(h:p:=by show(1 :Int)≠0;decide):p:=h
theorem IB(h:p:=by cases b):p:=h
theorem IC(h:p:=by cases h):p:=h
theorem Un(h:p:=by unfold Addr.add;split <;> simp_all):p:=h
theorem IQ(h:p:=by simp at h):p:=h
theorem Uo(h:p:=by rw[Lib.toList_data];simpa using a):p:=h
theorem Up(h:p:=by rw[Lib.toList_data];simpa using h):p:=h
theorem QN(h:p:=by simp[World.frozen?,a]):p:=h
theorem Uq(h:p:=by have h:=L.out;rw[ag]at h;exact h):p:=h
theorem Q6(h:p:=by rw[h];omega):p:=h
theorem QO(h:p:=by unfold wrap32;omega):p:=h
theorem Qm(h:p:=by rw[a];decide):p:=h
theorem Ur(h:p:=by have:=d.size;simp at this;omega):p:=h
theorem Us(h:p:=by rw[List.append_nil]at D;exact D):p:=h
theorem Ut(h:p:=by have e:k=b:=e;rw[<-e];exact d):p:=h
theorem Uu(h:p:=by have:=HM2.out.lt;rw[zA];omega):p:=h
theorem Q7(h:p:=by simp at c):p:=h
theorem QP(h:p:=by rw[pBL_got B,h];rfl):p:=h
theorem Uv(h:p:=by show 0+lenTs f.body 0<=_;omega):p:=h
theorem QQ(h:p:=by cases args;simp_all):p:=h
theorem QR(h:p:=by have:=c.size;omega):p:=h
theorem Qn(h:p:=by simpa using O):p:=h
theorem Uw(h:p:=by have:=HP.out.cur.size;omega):p:=h
theorem QS(h:p:=by have:=l.size;omega):p:=h
theorem QT(h:p:=by have:=c.lt;omega):p:=h
theorem Ux(h:p:=by rw[<-t.out,yK u.out z.out]):p:=h
theorem Uy(h:p:=by rw[<-r.out,zX t.out C.out]):p:=h
theorem Uz(h:p:=by have:=a.did.off.size;omega):p:=h
theorem Q8(h:p:=by simp[g]):p:=h
theorem QU(h:p:=by rw[exT_mk,uf];rfl):p:=h
theorem Qo(h:p:=by rw[jE];rfl):p:=h
theorem QV(h:p:=by rw[pAL_got,c];rfl):p:=h
theorem QW(h:p:=by simpa using this):p:=h
theorem QX(h:p:=by simpa using hi):p:=h
theorem QY(h:p:=by rw[hno];decide):p:=h
theorem Q9(h:p:=by cases c):p:=h
theorem ID(h:p:=by rfl):p:=h
theorem QZ(h:p:=by rw[x9];omega):p:=h
theorem Qa(h:p:=by cases e):p:=h
end Go.Proofs.YthcmenajdcbnnaaGreatDoor
