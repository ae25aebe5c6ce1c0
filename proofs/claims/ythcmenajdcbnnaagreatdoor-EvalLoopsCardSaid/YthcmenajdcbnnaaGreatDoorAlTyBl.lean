import Derived.Test.YthcmenajdcbnnaaGreatDoorAlEvSimS
set_option linter.unusedSimpArgs false
set_option linter.unusedVariables false
set_option maxRecDepth 100000
set_option maxHeartbeats 99000000
namespace Go.Proofs.YthcmenajdcbnnaaGreatDoor
open Go.RowKit Tryz
theorem It{p:Prop}(h:p:=by
 have aZ:=U bp;clear bp;by_cases bk:bt=0
 case neg=>
  go_wp2_with (first
   | (go_at_call 100;(with_reducible refine(kJ _ b p (tf++q) i td tc tf.length _ _ _ _ _ _ _ _ _ _ _ _ af ag ae ft (fX s) _ _ _ bb.o aH.o a9.o a7.o bd.o bc.o ab.o ba.o).mono ?_);rintro e a ⟨rfl,y⟩
      have f:Cy wr a:=bg.o.trans (y.mono Uj);have H:=(y.block wr.heap.size Uj).trans (Ds wr (qh 1 i td (.slice aa tc.length ad) (.slice D tg.length F) (.slice E th.length G)));obtain⟨aq,ar,au,av,aw,ax⟩:=zW H;have a1:wr.heap.size<a.heap.size:=Xo
      have K:=U (Dt (a6.o.trans ((fI.wb f P).mono bh)) ((f.block b P).trans aE.o));obtain⟨⟨ai,aj,ak,al,am,an,ao⟩,ap⟩:=zR ((f.block b P).trans aE.o);have a0:b<a.heap.size:=O
      have W:=C2 (p7 B b p (tf++q) (.slice aT p.wa.length aW) (.slice aU p.funcs.length aX) (.slice Q t S) ae ft af ag s w wr.heap.size (qh 1 i td (.slice aa tc.length ad) (.slice D tg.length F) (.slice E th.length G)) tg th (.slice D tg.length F) (.slice E th.length G) a) ⟨K.o.1,K.o.2,L.o.below f,H,be.o.below (f.mono L.o.hB) Zr,bf.o.below (f.mono L.o.hB) Zr,Xn,O,aG⟩;have bn:=C2 (((a.setCell (b,6) ((fX (s+1)):Int)).alloc (.cells #[td,(i:Int)] 100)).ownsRow w.heap.size 100 2 (.slice Q t S) t ((tf++q).flatMap kP.cs)) (qX Kz _);have bm:=U (jg (a.setCell (b,6) ((fX (s+1)):Int)) [.string td,.int .i64 i] 100 a.heap.size Uh);have bI:t<=1000000000:=Jo
      clear f y H)
   | (at_builtin;refine wpList_append_own _ rfl (.tmp 48) (.tmp 54) _ rfl w.heap.size 100 bw _ 2 24 underlying90 aB.o.1 aB.o.2.1 aB.o.2.2.1 aB.o.2.2.2 rfl O (.slice Q t S) t _ rfl (by exact bn.o) ⟨a.heap.size,0,none⟩ 1 1 [.string td,.int .i64 i] rfl rfl (by exact bm.o) Um Ul O Ji ?_
      intro vs C aQ J _;obtain⟨a2,a3,rfl⟩:=jE aQ;have Z:=fun k (z:(Value.slice Q t S).ownBlock=some k)=>zP ah.o k z
      have bM:a.heap.size+1<=C.heap.size:=Ki
      have az:∀g,g<a.heap.size->(∀k,(Value.slice Q t S).ownBlock=some k->g≠k)->C.heap[g]?=(a.setCell (b,6) ((fX (s+1)):Int)).heap[g]?:=fun g I aN=>(J.block g Ug (fun e=>aN g e.symm rfl)).trans (D7 _ _ g Gg)
      have x:=W.o.set;have aP:fI b w.heap.size w C:=fI.mk' (J.os.trans x.off.os) (J.tape.trans x.off.tape) (J.output.trans x.off.output) O aG fun g I aN=>(az g O (fun k z=>Xz)).trans (x.off.block I aN)
      have aA:=(az b a0 (fun k z=>Xz)).trans x.row;have ay:=(az wr.heap.size a1 (fun k z=>Jt)).trans x.box;have N:=a4.o.off aP;have aM:Below B (a.setCell (b,6) ((fX (s+1)):Int)) C:=(Zb.alloc x.env.hB (.cells #[td,(i:Int)] 100)).grown J Jj fun k z=>Jd
      have aR:C.ownsRow w.heap.size 100 2 (.slice a2 (t+1) a3) (tf++(q++[(⟨td,i⟩:Pa)])).length ((tf++(q++[(⟨td,i⟩:Pa)])).flatMap kP.cs):=Jl
      have bq:(tf++(q++[(⟨td,i⟩:Pa)])).length=t+1:=Jw
      have bl:=C2 (p7 B b p (tf++(q++[(⟨td,i⟩:Pa)])) (.slice aT p.wa.length aW) (.slice aU p.funcs.length aX) (.slice a2 (t+1) a3) ae ft af ag (s+1) w wr.heap.size (qh 1 i td (.slice aa tc.length ad) (.slice D tg.length F) (.slice E th.length G)) tg th (.slice D tg.length F) (.slice E th.length G) C) ⟨aP,aA,⟨N.hB,N.hBb,N.hb,N.ha,N.hf,xd aR O O⟩,ay,x.s4.below aM Zr,x.s5.below aM Zr,aR,W.o.ne,aG⟩;obtain⟨⟨ai,aj,ak,al,am,an,ao⟩,ap⟩:=zR aA;obtain⟨aq,ar,au,av,aw,ax⟩:=zW ay;have bL:wr.heap.size<C.heap.size:=zB ay;have bH:b<C.heap.size:=zB aA
      clear aQ J Z az x aP aA ay N aR bq aM)
   | (go_at_call 73
      have u:=bl.o
      (with_reducible refine(aY.o.call bi.o ab.o aF.o u.env u.row u.s4 Ux).mono ?_)
      rintro e aS ⟨rfl,Y,X⟩;have d:=u.step Y X;obtain⟨⟨ai,aj,ak,al,am,an,ao⟩,ap⟩:=zR d.row;obtain⟨aq,ar,au,av,aw,ax⟩:=zW d.box;have br:wr.heap.size<aS.heap.size:=zB d.box;have aC:=U d
      clear Y X d u)
   | (go_at_call 73
      have d:=aC.o
      (with_reducible refine(aY.o.call bu.o ab.o aZ.o d.env d.row d.s5 Ux).mono ?_)
      rintro e bx ⟨rfl,aO,aL⟩;have aD:=U (d.step aO aL)
      clear aO aL d))
  go_ret;have T:=vu (p:=p) (r:=l.drop (j+1)) (n:=s) (n1:=n2) (R:=(bt,a5)) aH.o Va Kp bk;rw[a8.o]at T;subst T;exact⟨rfl,aD.o.off,aD.o.row⟩
 case pos=>
  subst bk
  go_wp2_with (first
   | (go_at_call 100;(with_reducible refine(kJ _ b p (tf++q) i td tc tf.length _ _ _ _ _ _ _ _ _ _ _ _ af ag ae ft (fX s) _ _ _ bb.o aH.o a9.o a7.o bd.o bc.o ab.o ba.o).mono ?_);rintro e a ⟨rfl,y⟩
      have f:Cy wr a:=bg.o.trans (y.mono Uj);have H:=(y.block wr.heap.size Uj).trans (Ds wr (qh 1 i td (.slice aa tc.length ad) (.slice D tg.length F) (.slice E th.length G)));obtain⟨aq,ar,au,av,aw,ax⟩:=zW H;have a1:wr.heap.size<a.heap.size:=Xo
      have K:=U (Dt (a6.o.trans ((fI.wb f P).mono bh)) ((f.block b P).trans aE.o));obtain⟨⟨ai,aj,ak,al,am,an,ao⟩,ap⟩:=zR ((f.block b P).trans aE.o);have a0:b<a.heap.size:=O
      have W:=C2 (p7 B b p (tf++q) (.slice aT p.wa.length aW) (.slice aU p.funcs.length aX) (.slice Q t S) ae ft af ag s w wr.heap.size (qh 1 i td (.slice aa tc.length ad) (.slice D tg.length F) (.slice E th.length G)) tg th (.slice D tg.length F) (.slice E th.length G) a) ⟨K.o.1,K.o.2,L.o.below f,H,be.o.below (f.mono L.o.hB) Zr,bf.o.below (f.mono L.o.hB) Zr,Xn,O,aG⟩;have bn:=C2 (((a.setCell (b,6) ((fX (s+1)):Int)).alloc (.cells #[td,(i:Int)] 100)).ownsRow w.heap.size 100 2 (.slice Q t S) t ((tf++q).flatMap kP.cs)) (qX Kz _);have bm:=U (jg (a.setCell (b,6) ((fX (s+1)):Int)) [.string td,.int .i64 i] 100 a.heap.size Uh);have bI:t<=1000000000:=Jo
      clear f y H)
   | (at_builtin;refine wpList_append_own _ rfl (.tmp 48) (.tmp 54) _ rfl w.heap.size 100 bw _ 2 24 underlying90 aB.o.1 aB.o.2.1 aB.o.2.2.1 aB.o.2.2.2 rfl O (.slice Q t S) t _ rfl (by exact bn.o) ⟨a.heap.size,0,none⟩ 1 1 [.string td,.int .i64 i] rfl rfl (by exact bm.o) Um Ul O Ji ?_
      intro vs C aQ J _;obtain⟨a2,a3,rfl⟩:=jE aQ;have Z:=fun k (z:(Value.slice Q t S).ownBlock=some k)=>zP ah.o k z
      have bM:a.heap.size+1<=C.heap.size:=Ki
      have az:∀g,g<a.heap.size->(∀k,(Value.slice Q t S).ownBlock=some k->g≠k)->C.heap[g]?=(a.setCell (b,6) ((fX (s+1)):Int)).heap[g]?:=fun g I aN=>(J.block g Ug (fun e=>aN g e.symm rfl)).trans (D7 _ _ g Gg)
      have x:=W.o.set;have aP:fI b w.heap.size w C:=fI.mk' (J.os.trans x.off.os) (J.tape.trans x.off.tape) (J.output.trans x.off.output) O aG fun g I aN=>(az g O (fun k z=>Xz)).trans (x.off.block I aN)
      have aA:=(az b a0 (fun k z=>Xz)).trans x.row;have ay:=(az wr.heap.size a1 (fun k z=>Jt)).trans x.box;have N:=a4.o.off aP;have aM:Below B (a.setCell (b,6) ((fX (s+1)):Int)) C:=(Zb.alloc x.env.hB (.cells #[td,(i:Int)] 100)).grown J Jj fun k z=>Jd
      have aR:C.ownsRow w.heap.size 100 2 (.slice a2 (t+1) a3) (tf++(q++[(⟨td,i⟩:Pa)])).length ((tf++(q++[(⟨td,i⟩:Pa)])).flatMap kP.cs):=Jl
      have bq:(tf++(q++[(⟨td,i⟩:Pa)])).length=t+1:=Jw
      have bl:=C2 (p7 B b p (tf++(q++[(⟨td,i⟩:Pa)])) (.slice aT p.wa.length aW) (.slice aU p.funcs.length aX) (.slice a2 (t+1) a3) ae ft af ag (s+1) w wr.heap.size (qh 1 i td (.slice aa tc.length ad) (.slice D tg.length F) (.slice E th.length G)) tg th (.slice D tg.length F) (.slice E th.length G) C) ⟨aP,aA,⟨N.hB,N.hBb,N.hb,N.ha,N.hf,xd aR O O⟩,ay,x.s4.below aM Zr,x.s5.below aM Zr,aR,W.o.ne,aG⟩;obtain⟨⟨ai,aj,ak,al,am,an,ao⟩,ap⟩:=zR aA;obtain⟨aq,ar,au,av,aw,ax⟩:=zW ay;have bL:wr.heap.size<C.heap.size:=zB ay;have bH:b<C.heap.size:=zB aA
      clear aQ J Z az x aP aA ay N aR bq aM)
   | (go_at_call 73
      have u:=bl.o
      (with_reducible refine(aY.o.call bi.o ab.o aF.o u.env u.row u.s4 Ux).mono ?_)
      rintro e aS ⟨rfl,Y,X⟩;have d:=u.step Y X;obtain⟨⟨ai,aj,ak,al,am,an,ao⟩,ap⟩:=zR d.row;obtain⟨aq,ar,au,av,aw,ax⟩:=zW d.box;have br:wr.heap.size<aS.heap.size:=zB d.box;have aC:=U d
      clear Y X d u)
   | (go_at_call 73
      have d:=aC.o
      (with_reducible refine(aY.o.call bu.o ab.o aZ.o d.env d.row d.s5 Ux).mono ?_)
      rintro e bx ⟨rfl,aO,aL⟩;have aD:=U (d.step aO aL)
      clear aO aL d))
  go_roundw
  case rel=>
   have T:=hV (p:=p) (r:=l.drop (j+1)) (n:=s) (n1:=n2) (n2:=a5) aH.o Va Kp;rw[a8.o,aI.o]at T;exact⟨j+1,a5,q++[(⟨td,i⟩:Pa)],O,by go_num,T.symm,aD.o.own,aD.o.off,aD.o.row,Gu⟩
  case measure=>simp[intOf];omega):p:=h
theorem Iu{p:Prop}(h:p:=by
 go_wp2_with (first
  | (go_at_call 100;(with_reducible refine(kJ _ b p (tf++q) i td tc tf.length _ _ _ _ _ _ _ _ _ _ _ _ af ag ae ft (fX s) _ _ _ bb.o aH.o a9.o a7.o bd.o bc.o ab.o ba.o).mono ?_);rintro e a ⟨rfl,y⟩
     have f:Cy wr a:=bg.o.trans (y.mono Uj);have H:=(y.block wr.heap.size Uj).trans (Ds wr (qh 1 i td (.slice aa tc.length ad) (.slice D tg.length F) (.slice E th.length G)));obtain⟨aq,ar,au,av,aw,ax⟩:=zW H;have a1:wr.heap.size<a.heap.size:=Xo
     have K:=U (Dt (a6.o.trans ((fI.wb f P).mono bh)) ((f.block b P).trans aE.o));obtain⟨⟨ai,aj,ak,al,am,an,ao⟩,ap⟩:=zR ((f.block b P).trans aE.o);have a0:b<a.heap.size:=O
     have W:=C2 (p7 B b p (tf++q) (.slice aT p.wa.length aW) (.slice aU p.funcs.length aX) (.slice Q t S) ae ft af ag s w wr.heap.size (qh 1 i td (.slice aa tc.length ad) (.slice D tg.length F) (.slice E th.length G)) tg th (.slice D tg.length F) (.slice E th.length G) a) ⟨K.o.1,K.o.2,L.o.below f,H,be.o.below (f.mono L.o.hB) Zr,bf.o.below (f.mono L.o.hB) Zr,Xn,O,aG⟩;have bn:=C2 (((a.setCell (b,6) ((fX (s+1)):Int)).alloc (.cells #[td,(i:Int)] 100)).ownsRow w.heap.size 100 2 (.slice Q t S) t ((tf++q).flatMap kP.cs)) (qX Kz _);have bm:=U (jg (a.setCell (b,6) ((fX (s+1)):Int)) [.string td,.int .i64 i] 100 a.heap.size Uh);have bI:t<=1000000000:=Jo
     clear f y H)
  | (at_builtin;refine wpList_append_own _ rfl (.tmp 48) (.tmp 54) _ rfl w.heap.size 100 bw _ 2 24 underlying90 aB.o.1 aB.o.2.1 aB.o.2.2.1 aB.o.2.2.2 rfl O (.slice Q t S) t _ rfl (by exact bn.o) ⟨a.heap.size,0,none⟩ 1 1 [.string td,.int .i64 i] rfl rfl (by exact bm.o) Um Ul O Ji ?_
     intro vs C aQ J _;obtain⟨a2,a3,rfl⟩:=jE aQ;have Z:=fun k (z:(Value.slice Q t S).ownBlock=some k)=>zP ah.o k z
     have bM:a.heap.size+1<=C.heap.size:=Ki
     have az:∀g,g<a.heap.size->(∀k,(Value.slice Q t S).ownBlock=some k->g≠k)->C.heap[g]?=(a.setCell (b,6) ((fX (s+1)):Int)).heap[g]?:=fun g I aN=>(J.block g Ug (fun e=>aN g e.symm rfl)).trans (D7 _ _ g Gg)
     have x:=W.o.set;have aP:fI b w.heap.size w C:=fI.mk' (J.os.trans x.off.os) (J.tape.trans x.off.tape) (J.output.trans x.off.output) O aG fun g I aN=>(az g O (fun k z=>Xz)).trans (x.off.block I aN)
     have aA:=(az b a0 (fun k z=>Xz)).trans x.row;have ay:=(az wr.heap.size a1 (fun k z=>Jt)).trans x.box;have N:=a4.o.off aP;have aM:Below B (a.setCell (b,6) ((fX (s+1)):Int)) C:=(Zb.alloc x.env.hB (.cells #[td,(i:Int)] 100)).grown J Jj fun k z=>Jd
     have aR:C.ownsRow w.heap.size 100 2 (.slice a2 (t+1) a3) (tf++(q++[(⟨td,i⟩:Pa)])).length ((tf++(q++[(⟨td,i⟩:Pa)])).flatMap kP.cs):=Jl
     have bq:(tf++(q++[(⟨td,i⟩:Pa)])).length=t+1:=Jw
     have bl:=C2 (p7 B b p (tf++(q++[(⟨td,i⟩:Pa)])) (.slice aT p.wa.length aW) (.slice aU p.funcs.length aX) (.slice a2 (t+1) a3) ae ft af ag (s+1) w wr.heap.size (qh 1 i td (.slice aa tc.length ad) (.slice D tg.length F) (.slice E th.length G)) tg th (.slice D tg.length F) (.slice E th.length G) C) ⟨aP,aA,⟨N.hB,N.hBb,N.hb,N.ha,N.hf,xd aR O O⟩,ay,x.s4.below aM Zr,x.s5.below aM Zr,aR,W.o.ne,aG⟩;obtain⟨⟨ai,aj,ak,al,am,an,ao⟩,ap⟩:=zR aA;obtain⟨aq,ar,au,av,aw,ax⟩:=zW ay;have bL:wr.heap.size<C.heap.size:=zB ay;have bH:b<C.heap.size:=zB aA
     clear aQ J Z az x aP aA ay N aR bq aM)
  | (go_at_call 73
     have u:=bl.o
     (with_reducible refine(aY.o.call bi.o ab.o aF.o u.env u.row u.s4 Ux).mono ?_)
     rintro e aS ⟨rfl,Y,X⟩;have d:=u.step Y X;obtain⟨⟨ai,aj,ak,al,am,an,ao⟩,ap⟩:=zR d.row;obtain⟨aq,ar,au,av,aw,ax⟩:=zW d.box;have br:wr.heap.size<aS.heap.size:=zB d.box;have aC:=U d
     clear Y X d u))
 go_ret;have T:=vq (p:=p) (r:=l.drop (j+1)) (th:=th) (n:=s) (R:=(bs,n2)) aH.o Va bj;rw[a8.o]at T;subst T
 exact⟨rfl,aC.o.off,aC.o.row⟩):p:=h
theorem Iv{p:Prop}(h:p:=by
 have aZ:=U bp;clear bp;by_cases bk:bt=0
 case neg=>
  go_wp2_with (first
   | (go_at_call 100;(with_reducible refine(kJ _ b p (tf++q) i td tc tf.length _ _ _ _ _ _ _ _ _ _ _ _ af ag ae ft (fX s) _ _ _ bb.o aH.o a9.o a7.o bd.o bc.o ab.o ba.o).mono ?_);rintro e a ⟨rfl,y⟩
      have f:Cy wr a:=bg.o.trans (y.mono Uj);have H:=(y.block wr.heap.size Uj).trans (Ds wr (qh k i td (.slice aa tc.length ad) (.slice D tg.length F) (.slice E th.length G)));obtain⟨aq,ar,au,av,aw,ax⟩:=zW H;have a1:wr.heap.size<a.heap.size:=Xo
      have K:=U (Dt (a6.o.trans ((fI.wb f P).mono bh)) ((f.block b P).trans aE.o));obtain⟨⟨ai,aj,ak,al,am,an,ao⟩,ap⟩:=zR ((f.block b P).trans aE.o);have a0:b<a.heap.size:=O
      have W:=C2 (p7 B b p (tf++q) (.slice aT p.wa.length aW) (.slice aU p.funcs.length aX) (.slice Q t S) ae ft af ag s w wr.heap.size (qh k i td (.slice aa tc.length ad) (.slice D tg.length F) (.slice E th.length G)) tg th (.slice D tg.length F) (.slice E th.length G) a) ⟨K.o.1,K.o.2,L.o.below f,H,be.o.below (f.mono L.o.hB) Zr,bf.o.below (f.mono L.o.hB) Zr,Xn,O,aG⟩
      clear f y H)
   | (go_at_call 73
      have u:=W.o.set
      (with_reducible refine(aY.o.call bi.o ab.o aF.o u.env u.row u.s4 Ux).mono ?_)
      rintro e aS ⟨rfl,Y,X⟩;have d:=u.step Y X;obtain⟨⟨ai,aj,ak,al,am,an,ao⟩,ap⟩:=zR d.row;obtain⟨aq,ar,au,av,aw,ax⟩:=zW d.box;have br:wr.heap.size<aS.heap.size:=zB d.box;have aC:=U d
      clear Y X d u)
   | (go_at_call 73
      have d:=aC.o
      (with_reducible refine(aY.o.call bu.o ab.o aZ.o d.env d.row d.s5 Ux).mono ?_)
      rintro e bx ⟨rfl,aO,aL⟩;have aD:=U (d.step aO aL)
      clear aO aL d))
  go_ret;have T:=vu (p:=p) (r:=l.drop (j+1)) (n:=s) (n1:=n2) (R:=(bt,a5)) aH.o Va Kp bk;rw[a8.o]at T;subst T;exact⟨rfl,aD.o.off,aD.o.row⟩
 case pos=>
  subst bk
  go_wp2_with (first
   | (go_at_call 100;(with_reducible refine(kJ _ b p (tf++q) i td tc tf.length _ _ _ _ _ _ _ _ _ _ _ _ af ag ae ft (fX s) _ _ _ bb.o aH.o a9.o a7.o bd.o bc.o ab.o ba.o).mono ?_);rintro e a ⟨rfl,y⟩
      have f:Cy wr a:=bg.o.trans (y.mono Uj);have H:=(y.block wr.heap.size Uj).trans (Ds wr (qh k i td (.slice aa tc.length ad) (.slice D tg.length F) (.slice E th.length G)));obtain⟨aq,ar,au,av,aw,ax⟩:=zW H;have a1:wr.heap.size<a.heap.size:=Xo
      have K:=U (Dt (a6.o.trans ((fI.wb f P).mono bh)) ((f.block b P).trans aE.o));obtain⟨⟨ai,aj,ak,al,am,an,ao⟩,ap⟩:=zR ((f.block b P).trans aE.o);have a0:b<a.heap.size:=O
      have W:=C2 (p7 B b p (tf++q) (.slice aT p.wa.length aW) (.slice aU p.funcs.length aX) (.slice Q t S) ae ft af ag s w wr.heap.size (qh k i td (.slice aa tc.length ad) (.slice D tg.length F) (.slice E th.length G)) tg th (.slice D tg.length F) (.slice E th.length G) a) ⟨K.o.1,K.o.2,L.o.below f,H,be.o.below (f.mono L.o.hB) Zr,bf.o.below (f.mono L.o.hB) Zr,Xn,O,aG⟩
      clear f y H)
   | (go_at_call 73
      have u:=W.o.set
      (with_reducible refine(aY.o.call bi.o ab.o aF.o u.env u.row u.s4 Ux).mono ?_)
      rintro e aS ⟨rfl,Y,X⟩;have d:=u.step Y X;obtain⟨⟨ai,aj,ak,al,am,an,ao⟩,ap⟩:=zR d.row;obtain⟨aq,ar,au,av,aw,ax⟩:=zW d.box;have br:wr.heap.size<aS.heap.size:=zB d.box;have aC:=U d
      clear Y X d u)
   | (go_at_call 73
      have d:=aC.o
      (with_reducible refine(aY.o.call bu.o ab.o aZ.o d.env d.row d.s5 Ux).mono ?_)
      rintro e bx ⟨rfl,aO,aL⟩;have aD:=U (d.step aO aL)
      clear aO aL d))
  go_roundw
  case rel=>
   have T:=hV (p:=p) (r:=l.drop (j+1)) (n:=s) (n1:=n2) (n2:=a5) aH.o Va Kp;rw[a8.o,aI.o]at T;exact⟨j+1,a5,q,O,by go_num,T.symm,aD.o.own,aD.o.off,aD.o.row,Gu⟩
  case measure=>simp[intOf];omega):p:=h
theorem Iw{p:Prop}(h:p:=by
 go_wp2_with (first
  | (go_at_call 100;(with_reducible refine(kJ _ b p (tf++q) i td tc tf.length _ _ _ _ _ _ _ _ _ _ _ _ af ag ae ft (fX s) _ _ _ bb.o aH.o a9.o a7.o bd.o bc.o ab.o ba.o).mono ?_);rintro e a ⟨rfl,y⟩
     have f:Cy wr a:=bg.o.trans (y.mono Uj);have H:=(y.block wr.heap.size Uj).trans (Ds wr (qh k i td (.slice aa tc.length ad) (.slice D tg.length F) (.slice E th.length G)));obtain⟨aq,ar,au,av,aw,ax⟩:=zW H;have a1:wr.heap.size<a.heap.size:=Xo
     have K:=U (Dt (a6.o.trans ((fI.wb f P).mono bh)) ((f.block b P).trans aE.o));obtain⟨⟨ai,aj,ak,al,am,an,ao⟩,ap⟩:=zR ((f.block b P).trans aE.o);have a0:b<a.heap.size:=O
     have W:=C2 (p7 B b p (tf++q) (.slice aT p.wa.length aW) (.slice aU p.funcs.length aX) (.slice Q t S) ae ft af ag s w wr.heap.size (qh k i td (.slice aa tc.length ad) (.slice D tg.length F) (.slice E th.length G)) tg th (.slice D tg.length F) (.slice E th.length G) a) ⟨K.o.1,K.o.2,L.o.below f,H,be.o.below (f.mono L.o.hB) Zr,bf.o.below (f.mono L.o.hB) Zr,Xn,O,aG⟩
     clear f y H)
  | (go_at_call 73
     have u:=W.o.set
     (with_reducible refine(aY.o.call bi.o ab.o aF.o u.env u.row u.s4 Ux).mono ?_)
     rintro e aS ⟨rfl,Y,X⟩;have d:=u.step Y X;obtain⟨⟨ai,aj,ak,al,am,an,ao⟩,ap⟩:=zR d.row;obtain⟨aq,ar,au,av,aw,ax⟩:=zW d.box;have br:wr.heap.size<aS.heap.size:=zB d.box;have aC:=U d
     clear Y X d u))
 go_ret;have T:=vq (p:=p) (r:=l.drop (j+1)) (th:=th) (n:=s) (R:=(bs,n2)) aH.o Va bj;rw[a8.o]at T;subst T
 exact⟨rfl,aC.o.off,aC.o.row⟩):p:=h
theorem pV(m:Nat)(ck:∀m',m'+1=m->ZV m'):ZV m:=by
 intro B b p tf l ti n R _ _ _ v ae ft af ag w ce cf b4 bA b6 bY b7;obtain⟨aT,aW,aU,aX,bS,cv,rfl,rfl,rfl⟩:=bA.form;obtain⟨A,c,rfl,_⟩:=bY.form;obtain⟨bw,cd,ch,ci,cj⟩:=info_parts S6;have aB:=U (Dt cd (Dt ch (Dt ci cj)));have aG:=bA.hb;have cE:tf.length<=1000000000:=O
 have a4:=U bA;have cn:=U b6;have cp:=U bY;have ct:=U ce;have ab:=U cf;have cu:=U b4;have co:=U ck;have aV:=U b7;have cq:=U (Yp w w.heap.size 100 2)
 have cl:=U (show bS=none->tf.length=0 from fun M=>by
  subst M;by_cases bN:0<tf.length
  .obtain⟨g,o,bG,_⟩:=vh.elem bA.renv.hv.1 rfl bN
   cases bG
  .omega)
 have cm:=U (show ∀bT,bS=some bT->∀j bR,(tf.flatMap kP.cs)[j]?=some bR->w.cell? (bT.add j)=some bR from fun bT M j bR bW=>by
  subst M;by_cases bN:0<tf.length
  .obtain⟨g,o,bG,cy⟩:=vh.elem bA.renv.hv.1 rfl bN
   injection bG with bG;subst bG;rw[GH];exact tO tf g o cy j bR bW
  .obtain rfl:tf=[]:=Yq O
   simp at bW)
 clear bA b6 bY ce cf b4 ck cd ch ci cj b7;go_enter func73,ntmps73
 go_wp2_with (at_builtin;refine m5 rfl (.tmp 15) (.tmp 16) _ rfl w.heap.size 100 bw _ 2 24 underlying90 aB.o.1 aB.o.2.1 aB.o.2.2.1 aB.o.2.2.2 rfl O (.slice none 0 0) 0 [] rfl (by exact cq.o) bS tf.length cv (tf.flatMap kP.cs) rfl (S5 tf) cl.o cm.o (XZ tf) Ul O Zr ?_
              intro vs cA bQ cc;rw[Yz,Cn]at bQ;obtain⟨_,_,rfl⟩:=jE bQ;have cr:=U bQ;have b2:=C2 (Cy w cA) (Zb.grown cc Zr fun k z=>by cases z)
              clear bQ cc)
 go_loopw [9,10] (fun cz iv wr=>∃(j s:Nat) (q:List Pa),j<=l.length/\iv=.int .i64 j/\zX p ft (l.drop j) (tf++q) tf.length ti s=R/\wr.ownsRow w.heap.size 100 2 cz (tf++q).length ((tf++q).flatMap kP.cs)/\fI b w.heap.size w wr/\wr.heap[b]?=some (lS (.slice aT p.wa.length aW) (.slice aU p.funcs.length aX) ae ft af ag (fX s))/\q.length+fU (l.drop j)<=fU l) (fun _ iv _=>l.length-(intOf iv).toNat)
 case atStart=>exact⟨0,n,[],Dx _,rfl,by rw[Yd];exact cu.o,by rw[Yd];exact cr.o,fI.wb b2.o aG,(b2.o.block b aG).trans cn.o,Uh⟩
 case round=>
  obtain⟨j,s,q,bW,rfl,b5,bK,bJ,bO,b8⟩:=hrel;have bh:=bJ.size;have bC:=a4.o.off bJ;obtain⟨Q,S,rfl⟩:=jE bK;have cg:(tf++q).length<=1000000000:=by have:=aV.o;rw[Dr];omega
  have bU:lT B b p (tf++q) (.slice aT p.wa.length aW) (.slice aU p.funcs.length aX) (.slice Q (tf++q).length S) wr:=⟨bC.hB,bC.hBb,bC.hb,bC.ha,bC.hf,xd bK O O⟩
  have P:b<wr.heap.size:=zB bO;obtain⟨t,bP⟩:=C0 ((tf++q).length);have V:=U bP;rw[bP]at bK bU;rw[bP];have b3:=U b5;have a6:=U bJ;have aE:=U bO;have ah:=U bK;have L:=U bU;have aK:=U b8;have bz:=U cg;clear b5 bK bC bU b8 bP cg;by_cases cx:j<l.length
  .obtain⟨⟨k,i,td,tc,tg,th⟩,bF⟩:∃e,l[j]?=some e:=⟨_,Dz cx⟩
   obtain⟨g,o,_,_,_,rfl,I,bN,_,bj,bk,u,d,bZ,b0,b1⟩:=(cp.o.below (kZ bJ a4.o.hB a4.o.hBb) Zr).cells bF;obtain⟨aa,ad,rfl,_⟩:=bZ.form;obtain⟨D,F,rfl,_⟩:=b0.form;obtain⟨E,G,rfl,_⟩:=b1.form;have cB:=U bF;have cD:g<wr.heap.size:=by have:=L.o.hB;omega
   have bv:=ua ct.o bF;rw[jp]at bv;simp only[D2,decide_eq_true_eq]at bv;obtain⟨m',rfl⟩:∃m',m=m'+1:=⟨m-1,O⟩
   rw[Yu]at bv;have aY:=U (co.o m' rfl);have bi:=U bv.1.2;have bu:=U bv.2;have bc:=U bv.1.1.2;have bb:=U bv.1.1.1.2;have bD:Cy wr (wr.alloc (qh k i td (.slice aa tc.length ad) (.slice D tg.length F) (.slice E th.length G))):=Zb.alloc Zr _;have bg:=U bD;have a9:=U (L.o.below bD).renv;have a7:=U ((bD.block b P).trans bO);have bd:=U (bZ.below (bD.mono L.o.hB) (L.o.below bD).hB);have be:=U b0;have bf:=U b1;have bV:=b3.o;rw[xD bF]at bV;have a8:=U bV;have aJ:=U (JE bF);obtain⟨cw,cb⟩:=C0 (jH p ft k i td tc (tf++q) tf.length ti);have aH:=U cb;have ba:=U (show tf.length<=(tf++q).length by rw[Dr];omega);clear bF bZ b0 b1 bv bD bV cb bJ bO;have cC:=sE s;by_cases ca:cw=0
   case neg=>
    go_wp2_with (go_at_call 100;(with_reducible refine(kJ _ b p (tf++q) i td tc tf.length _ _ _ _ _ _ _ _ _ _ _ _ af ag ae ft (fX s) _ _ _ bb.o aH.o a9.o a7.o bd.o bc.o ab.o ba.o).mono ?_);rintro e a ⟨rfl,y⟩
                 have f:Cy wr a:=bg.o.trans (y.mono Uj);have H:=(y.block wr.heap.size Uj).trans (Ds wr (qh k i td (.slice aa tc.length ad) (.slice D tg.length F) (.slice E th.length G)));obtain⟨aq,ar,au,av,aw,ax⟩:=zW H;have a1:wr.heap.size<a.heap.size:=Xo
                 have K:=U (Dt (a6.o.trans ((fI.wb f P).mono bh)) ((f.block b P).trans aE.o));obtain⟨⟨ai,aj,ak,al,am,an,ao⟩,ap⟩:=zR ((f.block b P).trans aE.o);have a0:b<a.heap.size:=O
                 have W:=C2 (p7 B b p (tf++q) (.slice aT p.wa.length aW) (.slice aU p.funcs.length aX) (.slice Q t S) ae ft af ag s w wr.heap.size (qh k i td (.slice aa tc.length ad) (.slice D tg.length F) (.slice E th.length G)) tg th (.slice D tg.length F) (.slice E th.length G) a) ⟨K.o.1,K.o.2,L.o.below f,H,be.o.below (f.mono L.o.hB) Zr,bf.o.below (f.mono L.o.hB) Zr,Xn,O,aG⟩
                 clear f y H)
    go_ret;have T:=CT (p:=p) (r:=l.drop (j+1)) (tg:=tg) (th:=th) (n:=s) aH.o ca;rw[a8.o]at T;subst T;exact⟨rfl,K.o.1,K.o.2⟩
   case pos=>
    subst ca;by_cases bX:k=1
    case pos=>
     subst bX;have aI:=U (show jf 1 i td (tf++q)=tf++(q++[(⟨td,i⟩:Pa)])by unfold jf;rw[Dq rfl,Ya]);cases ti
     .obtain⟨⟨bs,n2⟩,bo⟩:=C0 (zX p ft tg (tf++(q++[(⟨td,i⟩:Pa)])) (tf++(q++[(⟨td,i⟩:Pa)])).length false (s+1))
      have aF:=U bo;clear bo;by_cases bj:bs=0
      case neg=>
       exact Iu
      case pos=>
       subst bj;obtain⟨⟨bt,a5⟩,bp⟩:=C0 (zX p ft th (tf++(q++[(⟨td,i⟩:Pa)])) (tf++(q++[(⟨td,i⟩:Pa)])).length false n2);exact It
     .obtain⟨⟨bs,n2⟩,bo⟩:=C0 (zX p ft tg (tf++(q++[(⟨td,i⟩:Pa)])) (tf++(q++[(⟨td,i⟩:Pa)])).length true (s+1))
      have aF:=U bo;clear bo;by_cases bj:bs=0
      case neg=>
       exact Iu
      case pos=>
       subst bj;obtain⟨⟨bt,a5⟩,bp⟩:=C0 (zX p ft th (tf++(q++[(⟨td,i⟩:Pa)])) (tf++(q++[(⟨td,i⟩:Pa)])).length true n2);exact It
    case neg=>
     have n1:(k == 1)=false:=by simp[bX]
     have aI:=U (show jf k i td (tf++q)=tf++q by unfold jf;rw[Dp bX]);cases ti
     .obtain⟨⟨bs,n2⟩,bo⟩:=C0 (zX p ft tg (tf++q) (tf++q).length (k == 5) (s+1))
      have aF:=U bo;clear bo;by_cases bj:bs=0
      case neg=>
       exact Iw
      case pos=>
       subst bj;obtain⟨⟨bt,a5⟩,bp⟩:=C0 (zX p ft th (tf++q) (tf++q).length false n2);exact Iv
     .obtain⟨⟨bs,n2⟩,bo⟩:=C0 (zX p ft tg (tf++q) (tf++q).length true (s+1))
      have aF:=U bo;clear bo;by_cases bj:bs=0
      case neg=>
       exact Iw
      case pos=>
       subst bj;obtain⟨⟨bt,a5⟩,bp⟩:=C0 (zX p ft th (tf++q) (tf++q).length true n2);exact Iv
  .go_wp2_with fail
   go_ret;have b9:=b3.o;rw[List.drop_of_length_le O,zX]at b9;subst b9;exact⟨rfl,a6.o,aE.o⟩
theorem zAk:∀m,ZV m
 |0=>pV 0 fun _ h=>O
 | m+1=>pV (m+1) fun m' h=>by
   obtain rfl:m'=m:=O
   exact zAk m'
theorem S8(s:C3):s.toList=[]↔s.size=0:=by
 rw[Ym,Yf];exact List.length_eq_zero_iff.symm
section
variable (B:Nat)(op n:Int)(td:C3)(A:Option Addr)(m cap:Nat)(w:C4)
theorem p8(k:Int)(a:k=1\/k=2\/k=4\/k=8):
 Cz 152 #[.agg #[(k:Int),(op:Int),(n:Int),td,(A,m,cap)]] w (Cw (zl k op n td m) w):=by
 rcases a with rfl|rfl|rfl|rfl
 all_goals
  go_enter func152,ntmps152;go_wp2_with fail
  all_goals go_ret
  all_goals refine⟨zC ?_,(Zb.alloc Zr _).alloc Uh _⟩
  all_goals go_light
  all_goals simp_all [zl,eB,S8]
 all_goals omega
theorem p9(k:Int)(f:k=3\/k=6\/k=7)(b:Bool)(c:us td=b):
 Cz 152 #[.agg #[(k:Int),(op:Int),(n:Int),td,(A,m,cap)]] w (Cw (zl k op n td m) w):=by
 have a:=U c;clear c;cases b
 all_goals rcases f with rfl|rfl|rfl
 all_goals
  go_enter func152,ntmps152;go_wp2_with (go_at_call 106;(with_reducible refine(l6 td _ a.o _).mono ?_);rintro e _ ⟨rfl,d⟩;obtain⟨_,_⟩:=qW d)
  all_goals go_ret
  all_goals refine⟨zC ?_,((Zb.alloc Zr _).alloc Uh _).trans (d.mono Ug)⟩
  all_goals have g:=a.o
  all_goals go_light
  all_goals simp_all [zl]
 all_goals omega
theorem x1(b:fO B w)(d:B<=w.heap.size):
 Cz 152 #[.agg #[(5:Int),(op:Int),(n:Int),td,(A,m,cap)]] w (Cw (zl 5 op n td m) w):=by
 have c:=U b;clear b;go_enter func152,ntmps152;go_wp2_with (go_at_call 161;(with_reducible refine(MJ op _ (c.o.below ((Zb.alloc d _).alloc Ug _)).rows).mono ?_);rintro e _ ⟨rfl,a⟩;obtain⟨_,_⟩:=qW a)
 all_goals go_ret
 all_goals refine⟨zC ?_,((Zb.alloc Zr _).alloc Uh _).trans (a.mono Ug)⟩
 all_goals go_light
 all_goals simp_all [zl,eB,S8]
 all_goals omega
theorem q0(k:Int)(b:k<1\/8<k):
 Cz 152 #[.agg #[(k:Int),(op:Int),(n:Int),td,(A,m,cap)]] w (Cw (zl k op n td m) w):=by
 have n1:(k == 1)=false:=Ug
 have n2:(k == 2)=false:=Ug
 have c:(k == 3)=false:=Ug
 have d:(k == 4)=false:=Ug
 have e:(k == 5)=false:=Ug
 have f:(k == 6)=false:=Ug
 have g:(k == 7)=false:=Ug
 have i:(k == 8)=false:=Ug
 have a:Do (zl k op n td m=false):=by
  unfold Do zl;rw[Dp O,Dp O,Dp O,Dp O,Dp O,Dp O,Dp O,Dp O]
 clear b;go_enter func152,ntmps152;go_wp2_with fail;go_ret;exact⟨zC a.o.symm,(Zb.alloc Zr _).alloc Uh _⟩
theorem x2(k:Int)(e:fO B w)(d:B<=w.heap.size):
 Cz 152 #[.agg #[(k:Int),(op:Int),(n:Int),td,(A,m,cap)]] w (Cw (zl k op n td m) w):=by
 by_cases a:k=1\/k=2\/k=4\/k=8
 .exact p8 op n td A m cap w k a
 by_cases b:k=3\/k=6\/k=7
 .exact p9 op n td A m cap w k b _ rfl
 by_cases c:k=5
 .subst c
  exact x1 B op n td A m cap w e d
 .exact q0 op n td A m cap w k O
end
theorem zAl(B:Nat)(k op n:Int)(td:C3)(A:Option Addr)(m cap:Nat)(b:Bool)(c:zl k op n td m=b)(w:C4)(d:fO B w)(a:B<=w.heap.size):
 Cz 152 #[.agg #[(k:Int),(op:Int),(n:Int),td,(A,m,cap)]] w (Cw b w):=
 c▸x2 B op n td A m cap w k d a
def S9(k:Nat):Prop:=∀(B:Nat) (d:Int) (l:List Ex) (b:Bool) (v:C5) (w:C4),0<=d->d+k=101->zx l k=b->fO B w->B<=w.heap.size->kW B w v l->
 Cz 133 #[v,(d:Int)] w (Cw b w)
theorem S9.call{k:Nat}(a:S9 k)(B:Nat)(d:Int)(l:List Ex)(b:Bool)(v:C5)(w:C4)(c:0<=d)(g:d+k=101)(f:zx l k=b)(j:fO B w)(e:B<=w.heap.size)(i:kW B w v l):
 Cz 133 #[v,(d:Int)] w (Cw b w):=a B d l b v w c g f j e i
theorem gZ(k:Nat)(Z:∀i,i+1=k->S9 i):S9 k:=by
 intro B d l b v w _ T R Y m F;have aj:d<=101:=O
 have x:=U T;clear T;obtain⟨A,cap,rfl,_⟩:=F.form;have p:=U Y;have ad:=U F;have s:=U R;have L:=U Z;clear Y F R Z;go_enter func133,ntmps133;go_wp2_with fail
 go_loopw [9] (fun iv wr=>∃j:Nat,j<=l.length/\iv=.int .i64 j/\zx (l.take j) k=true/\Cy w wr) (fun iv _=>l.length-(intOf iv).toNat)
 case atStart=>exact⟨0,Dx _,rfl,uQ _,D4 _ _⟩
 case round=>
  obtain⟨j,_,rfl,Q,f⟩:=hrel;have I:=U Q;clear Q;have r:=f.size;by_cases ag:j<l.length
  .obtain⟨⟨aa,op,n,td,tc⟩,E⟩:∃e,l[j]?=some e:=⟨_,Dz ag⟩
   have t:=U E;obtain⟨g,o,v,rfl,_,_,_,_,_,_,G⟩:=(ad.o.below (f.mono m) Zr).cells E;obtain⟨_,_,rfl,_⟩:=G.form;have M:=U G;have ak:g<wr.heap.size:=O
   have D:=f.mono m;have q:B<=wr.heap.size:=Dy m r;clear E G;rcases k with _|i
   .have af:decide ((100 :Int)<d)=true:=by have:=x.o;simp;omega
    have ae:Do (zx l 0=false):=yx t.o (by rw[kD];simp);go_wp2_with fail;go_ret;exact⟨zC (by rw[<-s.o,ae.o]),f.alloc r _⟩
   .have af:decide ((100 :Int)<d)=false:=by have:=x.o;simp;omega
    have V:(d+1)+(i:Int)=101:=by have:=x.o;omega
    have W:0<=d+1:=O
    have K:=U V;clear V;obtain⟨N,z⟩:=C0 (zl aa op n td tc.length);obtain⟨P,C⟩:=C0 (zx tc i)
    have y:Do (xx (.mk aa op n td tc) (i+1)=(N&&P)):=by
     unfold Do;rw[kD,z,Yu,C];simp
    have u:=U z;have J:=U C;clear z C;cases N
    .go_wp2_with (go_at_call 152;(with_reducible refine(zAl B _ _ _ _ _ _ _ _ u.o _ (p.o.below (D.alloc q _)) Ug).mono ?_);rintro e ab ⟨rfl,a⟩;obtain⟨S,X⟩:=qW a)
     go_ret;exact⟨zC (by rw[<-s.o,yx t.o y.o]),(f.alloc r _).trans (a.mono Ug)⟩
    .cases P
     .go_wp2_with (first
       |(go_at_call 152;(with_reducible refine(zAl B _ _ _ _ _ _ _ _ u.o _ (p.o.below (D.alloc q _)) Ug).mono ?_);rintro e ab ⟨rfl,a⟩;obtain⟨S,X⟩:=qW a;have ah:=a.size;have c:=(f.alloc r _).trans (a.mono Ug))
       |(go_at_call 133;(with_reducible refine((L.o i rfl).call B _ tc _ _ _ W K.o J.o (p.o.below (c.mono m)) (Dy m c.size) (M.o.below (Zb.alloc q _ |>.trans (a.mono Ug)) Zr)).mono ?_);rintro e ai ⟨rfl,H⟩))
      go_ret;exact⟨zC (by rw[<-s.o,yx t.o y.o]),c.trans (H.mono c.size)⟩
     .go_wp2_with (first
       |(go_at_call 152;(with_reducible refine(zAl B _ _ _ _ _ _ _ _ u.o _ (p.o.below (D.alloc q _)) Ug).mono ?_);rintro e ab ⟨rfl,a⟩;obtain⟨S,X⟩:=qW a;have ah:=a.size;have c:=(f.alloc r _).trans (a.mono Ug))
       |(go_at_call 133;(with_reducible refine((L.o i rfl).call B _ tc _ _ _ W K.o J.o (p.o.below (c.mono m)) (Dy m c.size) (M.o.below (Zb.alloc q _ |>.trans (a.mono Ug)) Zr)).mono ?_);rintro e ai ⟨rfl,H⟩))
      go_roundw
      case rel=>exact⟨j+1,O,by go_num,by rw[lJ t.o,I.o,y.o];rfl,c.trans (H.mono c.size)⟩
      case measure=>simp[intOf];omega
  .go_wp2_with fail
   go_ret;refine⟨zC ?_,f⟩;rw[<-s.o,<-I.o,Ye O]
theorem iI:∀k,S9 k
 |0=>gZ 0 (fun _ b=>O)
 | k+1=>gZ (k+1) (fun a b=>by
    obtain rfl:a=k:=O
    exact iI a)
theorem tP(B:Nat)(l:List Ex)(b:Bool)(c:zx l 100=b)(v:C5)(w:C4)(e:fO B w)(a:B<=w.heap.size)(d:kW B w v l):
 Cz 133 #[v,(1:Int)] w (Cw b w):=iI 100 B 1 l b v w Uf Uf c e a d
