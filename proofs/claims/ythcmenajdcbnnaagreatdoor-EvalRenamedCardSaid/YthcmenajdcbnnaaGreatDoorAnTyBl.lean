import Derived.Test.YthcmenajdcbnnaaGreatDoorAnTyOw
set_option linter.unusedSimpArgs false
set_option linter.unusedVariables false
set_option maxRecDepth 100000
set_option maxHeartbeats 99000000
namespace Go.Proofs.YthcmenajdcbnnaaGreatDoor
open Go.RowKit Tryz
theorem Ip{p:Prop}(h:p:=by
 have aZ:=U bp;clear bp;by_cases bk:bt=0
 case neg=>
  go_wp2_with (first
   | (go_at_call 100;(with_reducible refine(kT _ b p (tf++q) i td tc tf.length _ _ _ _ _ _ _ _ _ _ _ _ af ag ae ft (eH s) _ _ _ bb.o aH.o a9.o a7.o bd.o bc.o ab.o ba.o).mono ?_);rintro e a ⟨rfl,y⟩
      have f:Cx wr a:=bg.o.trans (y.mono Ut);have H:=(y.block wr.heap.size Ut).trans (Dq wr (qj 1 i td (.slice aa tc.length ad) (.slice D tg.length F) (.slice E th.length G)));obtain⟨aq,ar,au,av,aw,ax⟩:=zV H;have a1:wr.heap.size<a.heap.size:=Xv
      have K:=U (Do (a6.o.trans ((dX.wb f P).mono bh)) ((f.block b P).trans aE.o));obtain⟨⟨ai,aj,ak,al,am,an,ao⟩,ap⟩:=zS ((f.block b P).trans aE.o);have a0:b<a.heap.size:=O
      have W:=C0 (p1 B b p (tf++q) (.slice aT p.wa.length aW) (.slice aU p.funcs.length aX) (.slice Q t S) ae ft af ag s w wr.heap.size (qj 1 i td (.slice aa tc.length ad) (.slice D tg.length F) (.slice E th.length G)) tg th (.slice D tg.length F) (.slice E th.length G) a) ⟨K.o.1,K.o.2,L.o.below f,H,be.o.below (f.mono L.o.hB) Zr,bf.o.below (f.mono L.o.hB) Zr,Xu,O,aG⟩;have bn:=C0 (((a.setCell (b,6) ((eH (s+1)):Int)).alloc (.cells #[td,(i:Int)] 100)).ownsRow w.heap.size 100 2 (.slice Q t S) t ((tf++q).flatMap kP.cs)) (qU Jc _);have bm:=U (kE (a.setCell (b,6) ((eH (s+1)):Int)) [.string td,.int .i64 i] 100 a.heap.size Ur);have bI:t<=1000000000:=Js
      clear f y H)
   | (at_builtin;refine wpList_append_own _ rfl (.tmp 48) (.tmp 54) _ rfl w.heap.size 100 bw _ 2 24 underlying90 aB.o.1 aB.o.2.1 aB.o.2.2.1 aB.o.2.2.2 rfl O (.slice Q t S) t _ rfl (by exact bn.o) ⟨a.heap.size,0,none⟩ 1 1 [.string td,.int .i64 i] rfl rfl (by exact bm.o) Uw Uv O Jl ?_
      intro vs C aQ J _;obtain⟨a2,a3,rfl⟩:=jG aQ;have Z:=fun k (z:(Value.slice Q t S).ownBlock=some k)=>zR ah.o k z
      have bM:a.heap.size+1<=C.heap.size:=Ko
      have az:∀g,g<a.heap.size->(∀k,(Value.slice Q t S).ownBlock=some k->g≠k)->C.heap[g]?=(a.setCell (b,6) ((eH (s+1)):Int)).heap[g]?:=fun g I aN=>(J.block g Uq (fun e=>aN g e.symm rfl)).trans (D3 _ _ g Gs)
      have x:=W.o.set;have aP:dX b w.heap.size w C:=dX.mk' (J.os.trans x.off.os) (J.tape.trans x.off.tape) (J.output.trans x.off.output) O aG fun g I aN=>(az g O (fun k z=>Vg)).trans (x.off.block I aN)
      have aA:=(az b a0 (fun k z=>Vg)).trans x.row;have ay:=(az wr.heap.size a1 (fun k z=>Jx)).trans x.box;have N:=a4.o.off aP;have aM:Below B (a.setCell (b,6) ((eH (s+1)):Int)) C:=(Zb.alloc x.env.hB (.cells #[td,(i:Int)] 100)).grown J Jm fun k z=>Jg
      have aR:C.ownsRow w.heap.size 100 2 (.slice a2 (t+1) a3) (tf++(q++[(⟨td,i⟩:Pa)])).length ((tf++(q++[(⟨td,i⟩:Pa)])).flatMap kP.cs):=Jp
      have bq:(tf++(q++[(⟨td,i⟩:Pa)])).length=t+1:=Gc
      have bl:=C0 (p1 B b p (tf++(q++[(⟨td,i⟩:Pa)])) (.slice aT p.wa.length aW) (.slice aU p.funcs.length aX) (.slice a2 (t+1) a3) ae ft af ag (s+1) w wr.heap.size (qj 1 i td (.slice aa tc.length ad) (.slice D tg.length F) (.slice E th.length G)) tg th (.slice D tg.length F) (.slice E th.length G) C) ⟨aP,aA,⟨N.hB,N.hBb,N.hb,N.ha,N.hf,xi aR O O⟩,ay,x.s4.below aM Zr,x.s5.below aM Zr,aR,W.o.ne,aG⟩;obtain⟨⟨ai,aj,ak,al,am,an,ao⟩,ap⟩:=zS aA;obtain⟨aq,ar,au,av,aw,ax⟩:=zV ay;have bL:wr.heap.size<C.heap.size:=zB ay;have bH:b<C.heap.size:=zB aA
      clear aQ J Z az x aP aA ay N aR bq aM)
   | (go_at_call 73
      have u:=bl.o
      (with_reducible refine(aY.o.call bi.o ab.o aF.o u.env u.row u.s4 Xg).mono ?_)
      rintro e aS ⟨rfl,Y,X⟩;have d:=u.step Y X;obtain⟨⟨ai,aj,ak,al,am,an,ao⟩,ap⟩:=zS d.row;obtain⟨aq,ar,au,av,aw,ax⟩:=zV d.box;have br:wr.heap.size<aS.heap.size:=zB d.box;have aC:=U d
      clear Y X d u)
   | (go_at_call 73
      have d:=aC.o
      (with_reducible refine(aY.o.call bu.o ab.o aZ.o d.env d.row d.s5 Xg).mono ?_)
      rintro e bx ⟨rfl,aO,aL⟩;have aD:=U (d.step aO aL)
      clear aO aL d))
  go_ret;have T:=uS (p:=p) (r:=l.drop (j+1)) (n:=s) (n1:=n2) (R:=(bt,a5)) aH.o Vh Kt bk;rw[a8.o]at T;subst T;exact⟨rfl,aD.o.off,aD.o.row⟩
 case pos=>
  subst bk
  go_wp2_with (first
   | (go_at_call 100;(with_reducible refine(kT _ b p (tf++q) i td tc tf.length _ _ _ _ _ _ _ _ _ _ _ _ af ag ae ft (eH s) _ _ _ bb.o aH.o a9.o a7.o bd.o bc.o ab.o ba.o).mono ?_);rintro e a ⟨rfl,y⟩
      have f:Cx wr a:=bg.o.trans (y.mono Ut);have H:=(y.block wr.heap.size Ut).trans (Dq wr (qj 1 i td (.slice aa tc.length ad) (.slice D tg.length F) (.slice E th.length G)));obtain⟨aq,ar,au,av,aw,ax⟩:=zV H;have a1:wr.heap.size<a.heap.size:=Xv
      have K:=U (Do (a6.o.trans ((dX.wb f P).mono bh)) ((f.block b P).trans aE.o));obtain⟨⟨ai,aj,ak,al,am,an,ao⟩,ap⟩:=zS ((f.block b P).trans aE.o);have a0:b<a.heap.size:=O
      have W:=C0 (p1 B b p (tf++q) (.slice aT p.wa.length aW) (.slice aU p.funcs.length aX) (.slice Q t S) ae ft af ag s w wr.heap.size (qj 1 i td (.slice aa tc.length ad) (.slice D tg.length F) (.slice E th.length G)) tg th (.slice D tg.length F) (.slice E th.length G) a) ⟨K.o.1,K.o.2,L.o.below f,H,be.o.below (f.mono L.o.hB) Zr,bf.o.below (f.mono L.o.hB) Zr,Xu,O,aG⟩;have bn:=C0 (((a.setCell (b,6) ((eH (s+1)):Int)).alloc (.cells #[td,(i:Int)] 100)).ownsRow w.heap.size 100 2 (.slice Q t S) t ((tf++q).flatMap kP.cs)) (qU Jc _);have bm:=U (kE (a.setCell (b,6) ((eH (s+1)):Int)) [.string td,.int .i64 i] 100 a.heap.size Ur);have bI:t<=1000000000:=Js
      clear f y H)
   | (at_builtin;refine wpList_append_own _ rfl (.tmp 48) (.tmp 54) _ rfl w.heap.size 100 bw _ 2 24 underlying90 aB.o.1 aB.o.2.1 aB.o.2.2.1 aB.o.2.2.2 rfl O (.slice Q t S) t _ rfl (by exact bn.o) ⟨a.heap.size,0,none⟩ 1 1 [.string td,.int .i64 i] rfl rfl (by exact bm.o) Uw Uv O Jl ?_
      intro vs C aQ J _;obtain⟨a2,a3,rfl⟩:=jG aQ;have Z:=fun k (z:(Value.slice Q t S).ownBlock=some k)=>zR ah.o k z
      have bM:a.heap.size+1<=C.heap.size:=Ko
      have az:∀g,g<a.heap.size->(∀k,(Value.slice Q t S).ownBlock=some k->g≠k)->C.heap[g]?=(a.setCell (b,6) ((eH (s+1)):Int)).heap[g]?:=fun g I aN=>(J.block g Uq (fun e=>aN g e.symm rfl)).trans (D3 _ _ g Gs)
      have x:=W.o.set;have aP:dX b w.heap.size w C:=dX.mk' (J.os.trans x.off.os) (J.tape.trans x.off.tape) (J.output.trans x.off.output) O aG fun g I aN=>(az g O (fun k z=>Vg)).trans (x.off.block I aN)
      have aA:=(az b a0 (fun k z=>Vg)).trans x.row;have ay:=(az wr.heap.size a1 (fun k z=>Jx)).trans x.box;have N:=a4.o.off aP;have aM:Below B (a.setCell (b,6) ((eH (s+1)):Int)) C:=(Zb.alloc x.env.hB (.cells #[td,(i:Int)] 100)).grown J Jm fun k z=>Jg
      have aR:C.ownsRow w.heap.size 100 2 (.slice a2 (t+1) a3) (tf++(q++[(⟨td,i⟩:Pa)])).length ((tf++(q++[(⟨td,i⟩:Pa)])).flatMap kP.cs):=Jp
      have bq:(tf++(q++[(⟨td,i⟩:Pa)])).length=t+1:=Gc
      have bl:=C0 (p1 B b p (tf++(q++[(⟨td,i⟩:Pa)])) (.slice aT p.wa.length aW) (.slice aU p.funcs.length aX) (.slice a2 (t+1) a3) ae ft af ag (s+1) w wr.heap.size (qj 1 i td (.slice aa tc.length ad) (.slice D tg.length F) (.slice E th.length G)) tg th (.slice D tg.length F) (.slice E th.length G) C) ⟨aP,aA,⟨N.hB,N.hBb,N.hb,N.ha,N.hf,xi aR O O⟩,ay,x.s4.below aM Zr,x.s5.below aM Zr,aR,W.o.ne,aG⟩;obtain⟨⟨ai,aj,ak,al,am,an,ao⟩,ap⟩:=zS aA;obtain⟨aq,ar,au,av,aw,ax⟩:=zV ay;have bL:wr.heap.size<C.heap.size:=zB ay;have bH:b<C.heap.size:=zB aA
      clear aQ J Z az x aP aA ay N aR bq aM)
   | (go_at_call 73
      have u:=bl.o
      (with_reducible refine(aY.o.call bi.o ab.o aF.o u.env u.row u.s4 Xg).mono ?_)
      rintro e aS ⟨rfl,Y,X⟩;have d:=u.step Y X;obtain⟨⟨ai,aj,ak,al,am,an,ao⟩,ap⟩:=zS d.row;obtain⟨aq,ar,au,av,aw,ax⟩:=zV d.box;have br:wr.heap.size<aS.heap.size:=zB d.box;have aC:=U d
      clear Y X d u)
   | (go_at_call 73
      have d:=aC.o
      (with_reducible refine(aY.o.call bu.o ab.o aZ.o d.env d.row d.s5 Xg).mono ?_)
      rintro e bx ⟨rfl,aO,aL⟩;have aD:=U (d.step aO aL)
      clear aO aL d))
  go_roundw
  case rel=>
   have T:=gZ (p:=p) (r:=l.drop (j+1)) (n:=s) (n1:=n2) (n2:=a5) aH.o Vh Kt;rw[a8.o,aI.o]at T;exact⟨j+1,a5,q++[(⟨td,i⟩:Pa)],O,by go_num,T.symm,aD.o.own,aD.o.off,aD.o.row,Hd⟩
  case measure=>simp[intOf];omega):p:=h
theorem Iq{p:Prop}(h:p:=by
 go_wp2_with (first
  | (go_at_call 100;(with_reducible refine(kT _ b p (tf++q) i td tc tf.length _ _ _ _ _ _ _ _ _ _ _ _ af ag ae ft (eH s) _ _ _ bb.o aH.o a9.o a7.o bd.o bc.o ab.o ba.o).mono ?_);rintro e a ⟨rfl,y⟩
     have f:Cx wr a:=bg.o.trans (y.mono Ut);have H:=(y.block wr.heap.size Ut).trans (Dq wr (qj 1 i td (.slice aa tc.length ad) (.slice D tg.length F) (.slice E th.length G)));obtain⟨aq,ar,au,av,aw,ax⟩:=zV H;have a1:wr.heap.size<a.heap.size:=Xv
     have K:=U (Do (a6.o.trans ((dX.wb f P).mono bh)) ((f.block b P).trans aE.o));obtain⟨⟨ai,aj,ak,al,am,an,ao⟩,ap⟩:=zS ((f.block b P).trans aE.o);have a0:b<a.heap.size:=O
     have W:=C0 (p1 B b p (tf++q) (.slice aT p.wa.length aW) (.slice aU p.funcs.length aX) (.slice Q t S) ae ft af ag s w wr.heap.size (qj 1 i td (.slice aa tc.length ad) (.slice D tg.length F) (.slice E th.length G)) tg th (.slice D tg.length F) (.slice E th.length G) a) ⟨K.o.1,K.o.2,L.o.below f,H,be.o.below (f.mono L.o.hB) Zr,bf.o.below (f.mono L.o.hB) Zr,Xu,O,aG⟩;have bn:=C0 (((a.setCell (b,6) ((eH (s+1)):Int)).alloc (.cells #[td,(i:Int)] 100)).ownsRow w.heap.size 100 2 (.slice Q t S) t ((tf++q).flatMap kP.cs)) (qU Jc _);have bm:=U (kE (a.setCell (b,6) ((eH (s+1)):Int)) [.string td,.int .i64 i] 100 a.heap.size Ur);have bI:t<=1000000000:=Js
     clear f y H)
  | (at_builtin;refine wpList_append_own _ rfl (.tmp 48) (.tmp 54) _ rfl w.heap.size 100 bw _ 2 24 underlying90 aB.o.1 aB.o.2.1 aB.o.2.2.1 aB.o.2.2.2 rfl O (.slice Q t S) t _ rfl (by exact bn.o) ⟨a.heap.size,0,none⟩ 1 1 [.string td,.int .i64 i] rfl rfl (by exact bm.o) Uw Uv O Jl ?_
     intro vs C aQ J _;obtain⟨a2,a3,rfl⟩:=jG aQ;have Z:=fun k (z:(Value.slice Q t S).ownBlock=some k)=>zR ah.o k z
     have bM:a.heap.size+1<=C.heap.size:=Ko
     have az:∀g,g<a.heap.size->(∀k,(Value.slice Q t S).ownBlock=some k->g≠k)->C.heap[g]?=(a.setCell (b,6) ((eH (s+1)):Int)).heap[g]?:=fun g I aN=>(J.block g Uq (fun e=>aN g e.symm rfl)).trans (D3 _ _ g Gs)
     have x:=W.o.set;have aP:dX b w.heap.size w C:=dX.mk' (J.os.trans x.off.os) (J.tape.trans x.off.tape) (J.output.trans x.off.output) O aG fun g I aN=>(az g O (fun k z=>Vg)).trans (x.off.block I aN)
     have aA:=(az b a0 (fun k z=>Vg)).trans x.row;have ay:=(az wr.heap.size a1 (fun k z=>Jx)).trans x.box;have N:=a4.o.off aP;have aM:Below B (a.setCell (b,6) ((eH (s+1)):Int)) C:=(Zb.alloc x.env.hB (.cells #[td,(i:Int)] 100)).grown J Jm fun k z=>Jg
     have aR:C.ownsRow w.heap.size 100 2 (.slice a2 (t+1) a3) (tf++(q++[(⟨td,i⟩:Pa)])).length ((tf++(q++[(⟨td,i⟩:Pa)])).flatMap kP.cs):=Jp
     have bq:(tf++(q++[(⟨td,i⟩:Pa)])).length=t+1:=Gc
     have bl:=C0 (p1 B b p (tf++(q++[(⟨td,i⟩:Pa)])) (.slice aT p.wa.length aW) (.slice aU p.funcs.length aX) (.slice a2 (t+1) a3) ae ft af ag (s+1) w wr.heap.size (qj 1 i td (.slice aa tc.length ad) (.slice D tg.length F) (.slice E th.length G)) tg th (.slice D tg.length F) (.slice E th.length G) C) ⟨aP,aA,⟨N.hB,N.hBb,N.hb,N.ha,N.hf,xi aR O O⟩,ay,x.s4.below aM Zr,x.s5.below aM Zr,aR,W.o.ne,aG⟩;obtain⟨⟨ai,aj,ak,al,am,an,ao⟩,ap⟩:=zS aA;obtain⟨aq,ar,au,av,aw,ax⟩:=zV ay;have bL:wr.heap.size<C.heap.size:=zB ay;have bH:b<C.heap.size:=zB aA
     clear aQ J Z az x aP aA ay N aR bq aM)
  | (go_at_call 73
     have u:=bl.o
     (with_reducible refine(aY.o.call bi.o ab.o aF.o u.env u.row u.s4 Xg).mono ?_)
     rintro e aS ⟨rfl,Y,X⟩;have d:=u.step Y X;obtain⟨⟨ai,aj,ak,al,am,an,ao⟩,ap⟩:=zS d.row;obtain⟨aq,ar,au,av,aw,ax⟩:=zV d.box;have br:wr.heap.size<aS.heap.size:=zB d.box;have aC:=U d
     clear Y X d u))
 go_ret;have T:=uR (p:=p) (r:=l.drop (j+1)) (th:=th) (n:=s) (R:=(bs,n2)) aH.o Vh bj;rw[a8.o]at T;subst T
 exact⟨rfl,aC.o.off,aC.o.row⟩):p:=h
theorem Ir{p:Prop}(h:p:=by
 have aZ:=U bp;clear bp;by_cases bk:bt=0
 case neg=>
  go_wp2_with (first
   | (go_at_call 100;(with_reducible refine(kT _ b p (tf++q) i td tc tf.length _ _ _ _ _ _ _ _ _ _ _ _ af ag ae ft (eH s) _ _ _ bb.o aH.o a9.o a7.o bd.o bc.o ab.o ba.o).mono ?_);rintro e a ⟨rfl,y⟩
      have f:Cx wr a:=bg.o.trans (y.mono Ut);have H:=(y.block wr.heap.size Ut).trans (Dq wr (qj k i td (.slice aa tc.length ad) (.slice D tg.length F) (.slice E th.length G)));obtain⟨aq,ar,au,av,aw,ax⟩:=zV H;have a1:wr.heap.size<a.heap.size:=Xv
      have K:=U (Do (a6.o.trans ((dX.wb f P).mono bh)) ((f.block b P).trans aE.o));obtain⟨⟨ai,aj,ak,al,am,an,ao⟩,ap⟩:=zS ((f.block b P).trans aE.o);have a0:b<a.heap.size:=O
      have W:=C0 (p1 B b p (tf++q) (.slice aT p.wa.length aW) (.slice aU p.funcs.length aX) (.slice Q t S) ae ft af ag s w wr.heap.size (qj k i td (.slice aa tc.length ad) (.slice D tg.length F) (.slice E th.length G)) tg th (.slice D tg.length F) (.slice E th.length G) a) ⟨K.o.1,K.o.2,L.o.below f,H,be.o.below (f.mono L.o.hB) Zr,bf.o.below (f.mono L.o.hB) Zr,Xu,O,aG⟩
      clear f y H)
   | (go_at_call 73
      have u:=W.o.set
      (with_reducible refine(aY.o.call bi.o ab.o aF.o u.env u.row u.s4 Xg).mono ?_)
      rintro e aS ⟨rfl,Y,X⟩;have d:=u.step Y X;obtain⟨⟨ai,aj,ak,al,am,an,ao⟩,ap⟩:=zS d.row;obtain⟨aq,ar,au,av,aw,ax⟩:=zV d.box;have br:wr.heap.size<aS.heap.size:=zB d.box;have aC:=U d
      clear Y X d u)
   | (go_at_call 73
      have d:=aC.o
      (with_reducible refine(aY.o.call bu.o ab.o aZ.o d.env d.row d.s5 Xg).mono ?_)
      rintro e bx ⟨rfl,aO,aL⟩;have aD:=U (d.step aO aL)
      clear aO aL d))
  go_ret;have T:=uS (p:=p) (r:=l.drop (j+1)) (n:=s) (n1:=n2) (R:=(bt,a5)) aH.o Vh Kt bk;rw[a8.o]at T;subst T;exact⟨rfl,aD.o.off,aD.o.row⟩
 case pos=>
  subst bk
  go_wp2_with (first
   | (go_at_call 100;(with_reducible refine(kT _ b p (tf++q) i td tc tf.length _ _ _ _ _ _ _ _ _ _ _ _ af ag ae ft (eH s) _ _ _ bb.o aH.o a9.o a7.o bd.o bc.o ab.o ba.o).mono ?_);rintro e a ⟨rfl,y⟩
      have f:Cx wr a:=bg.o.trans (y.mono Ut);have H:=(y.block wr.heap.size Ut).trans (Dq wr (qj k i td (.slice aa tc.length ad) (.slice D tg.length F) (.slice E th.length G)));obtain⟨aq,ar,au,av,aw,ax⟩:=zV H;have a1:wr.heap.size<a.heap.size:=Xv
      have K:=U (Do (a6.o.trans ((dX.wb f P).mono bh)) ((f.block b P).trans aE.o));obtain⟨⟨ai,aj,ak,al,am,an,ao⟩,ap⟩:=zS ((f.block b P).trans aE.o);have a0:b<a.heap.size:=O
      have W:=C0 (p1 B b p (tf++q) (.slice aT p.wa.length aW) (.slice aU p.funcs.length aX) (.slice Q t S) ae ft af ag s w wr.heap.size (qj k i td (.slice aa tc.length ad) (.slice D tg.length F) (.slice E th.length G)) tg th (.slice D tg.length F) (.slice E th.length G) a) ⟨K.o.1,K.o.2,L.o.below f,H,be.o.below (f.mono L.o.hB) Zr,bf.o.below (f.mono L.o.hB) Zr,Xu,O,aG⟩
      clear f y H)
   | (go_at_call 73
      have u:=W.o.set
      (with_reducible refine(aY.o.call bi.o ab.o aF.o u.env u.row u.s4 Xg).mono ?_)
      rintro e aS ⟨rfl,Y,X⟩;have d:=u.step Y X;obtain⟨⟨ai,aj,ak,al,am,an,ao⟩,ap⟩:=zS d.row;obtain⟨aq,ar,au,av,aw,ax⟩:=zV d.box;have br:wr.heap.size<aS.heap.size:=zB d.box;have aC:=U d
      clear Y X d u)
   | (go_at_call 73
      have d:=aC.o
      (with_reducible refine(aY.o.call bu.o ab.o aZ.o d.env d.row d.s5 Xg).mono ?_)
      rintro e bx ⟨rfl,aO,aL⟩;have aD:=U (d.step aO aL)
      clear aO aL d))
  go_roundw
  case rel=>
   have T:=gZ (p:=p) (r:=l.drop (j+1)) (n:=s) (n1:=n2) (n2:=a5) aH.o Vh Kt;rw[a8.o,aI.o]at T;exact⟨j+1,a5,q,O,by go_num,T.symm,aD.o.own,aD.o.off,aD.o.row,Hd⟩
  case measure=>simp[intOf];omega):p:=h
theorem It{p:Prop}(h:p:=by
 go_wp2_with (first
  | (go_at_call 100;(with_reducible refine(kT _ b p (tf++q) i td tc tf.length _ _ _ _ _ _ _ _ _ _ _ _ af ag ae ft (eH s) _ _ _ bb.o aH.o a9.o a7.o bd.o bc.o ab.o ba.o).mono ?_);rintro e a ⟨rfl,y⟩
     have f:Cx wr a:=bg.o.trans (y.mono Ut);have H:=(y.block wr.heap.size Ut).trans (Dq wr (qj k i td (.slice aa tc.length ad) (.slice D tg.length F) (.slice E th.length G)));obtain⟨aq,ar,au,av,aw,ax⟩:=zV H;have a1:wr.heap.size<a.heap.size:=Xv
     have K:=U (Do (a6.o.trans ((dX.wb f P).mono bh)) ((f.block b P).trans aE.o));obtain⟨⟨ai,aj,ak,al,am,an,ao⟩,ap⟩:=zS ((f.block b P).trans aE.o);have a0:b<a.heap.size:=O
     have W:=C0 (p1 B b p (tf++q) (.slice aT p.wa.length aW) (.slice aU p.funcs.length aX) (.slice Q t S) ae ft af ag s w wr.heap.size (qj k i td (.slice aa tc.length ad) (.slice D tg.length F) (.slice E th.length G)) tg th (.slice D tg.length F) (.slice E th.length G) a) ⟨K.o.1,K.o.2,L.o.below f,H,be.o.below (f.mono L.o.hB) Zr,bf.o.below (f.mono L.o.hB) Zr,Xu,O,aG⟩
     clear f y H)
  | (go_at_call 73
     have u:=W.o.set
     (with_reducible refine(aY.o.call bi.o ab.o aF.o u.env u.row u.s4 Xg).mono ?_)
     rintro e aS ⟨rfl,Y,X⟩;have d:=u.step Y X;obtain⟨⟨ai,aj,ak,al,am,an,ao⟩,ap⟩:=zS d.row;obtain⟨aq,ar,au,av,aw,ax⟩:=zV d.box;have br:wr.heap.size<aS.heap.size:=zB d.box;have aC:=U d
     clear Y X d u))
 go_ret;have T:=uR (p:=p) (r:=l.drop (j+1)) (th:=th) (n:=s) (R:=(bs,n2)) aH.o Vh bj;rw[a8.o]at T;subst T
 exact⟨rfl,aC.o.off,aC.o.row⟩):p:=h
theorem pJ(m:Nat)(ck:∀m',m'+1=m->BlC m'):BlC m:=by
 intro B b p tf l ti n R _ _ _ v ae ft af ag w ce cf b4 bA b6 bY b7;obtain⟨aT,aW,aU,aX,bS,cv,rfl,rfl,rfl⟩:=bA.form;obtain⟨A,c,rfl,_⟩:=bY.form;obtain⟨bw,cd,ch,ci,cj⟩:=info_parts T0;have aB:=U (Do cd (Do ch (Do ci cj)));have aG:=bA.hb;have cE:tf.length<=1000000000:=O
 have a4:=U bA;have cn:=U b6;have cp:=U bY;have ct:=U ce;have ab:=U cf;have cu:=U b4;have co:=U ck;have aV:=U b7;have cq:=U (Ym w w.heap.size 100 2)
 have cl:=U (show bS=none->tf.length=0 from fun M=>by
  subst M;by_cases bN:0<tf.length
  .obtain⟨g,o,bG,_⟩:=vR.elem bA.renv.hv.1 rfl bN
   cases bG
  .omega)
 have cm:=U (show ∀bT,bS=some bT->∀j bR,(tf.flatMap kP.cs)[j]?=some bR->w.cell? (bT.add j)=some bR from fun bT M j bR bW=>by
  subst M;by_cases bN:0<tf.length
  .obtain⟨g,o,bG,cy⟩:=vR.elem bA.renv.hv.1 rfl bN
   injection bG with bG;subst bG;rw[GB];exact tD tf g o cy j bR bW
  .obtain rfl:tf=[]:=Yj O
   simp at bW)
 clear bA b6 bY ce cf b4 ck cd ch ci cj b7;go_enter func73,ntmps73
 go_wp2_with (at_builtin;refine yG rfl (.tmp 15) (.tmp 16) _ rfl w.heap.size 100 bw _ 2 24 underlying90 aB.o.1 aB.o.2.1 aB.o.2.2.1 aB.o.2.2.2 rfl O (.slice none 0 0) 0 [] rfl (by exact cq.o) bS tf.length cv (tf.flatMap kP.cs) rfl (TZ tf) cl.o cm.o (ZC tf) Uv O Zr ?_
              intro vs cA bQ cc;rw[Yo,Yy]at bQ;obtain⟨_,_,rfl⟩:=jG bQ;have cr:=U bQ;have b2:=C0 (Cx w cA) (Zb.grown cc Zr fun k z=>by cases z)
              clear bQ cc)
 go_loopw [9,10] (fun cz iv wr=>∃(j s:Nat) (q:List Pa),j<=l.length/\iv=.int .i64 j/\zW p ft (l.drop j) (tf++q) tf.length ti s=R/\wr.ownsRow w.heap.size 100 2 cz (tf++q).length ((tf++q).flatMap kP.cs)/\dX b w.heap.size w wr/\wr.heap[b]?=some (lD (.slice aT p.wa.length aW) (.slice aU p.funcs.length aX) ae ft af ag (eH s))/\q.length+d4 (l.drop j)<=d4 l) (fun _ iv _=>l.length-(intOf iv).toNat)
 case atStart=>exact⟨0,n,[],Dw _,rfl,by rw[D8];exact cu.o,by rw[D8];exact cr.o,dX.wb b2.o aG,(b2.o.block b aG).trans cn.o,Ur⟩
 case round=>
  obtain⟨j,s,q,bW,rfl,b5,bK,bJ,bO,b8⟩:=hrel;have bh:=bJ.size;have bC:=a4.o.off bJ;obtain⟨Q,S,rfl⟩:=jG bK;have cg:(tf++q).length<=1000000000:=by have:=aV.o;rw[Dn];omega
  have bU:lE B b p (tf++q) (.slice aT p.wa.length aW) (.slice aU p.funcs.length aX) (.slice Q (tf++q).length S) wr:=⟨bC.hB,bC.hBb,bC.hb,bC.ha,bC.hf,xi bK O O⟩
  have P:b<wr.heap.size:=zB bO;obtain⟨t,bP⟩:=Cz ((tf++q).length);have V:=U bP;rw[bP]at bK bU;rw[bP];have b3:=U b5;have a6:=U bJ;have aE:=U bO;have ah:=U bK;have L:=U bU;have aK:=U b8;have bz:=U cg;clear b5 bK bC bU b8 bP cg;by_cases cx:j<l.length
  .obtain⟨⟨k,i,td,tc,tg,th⟩,bF⟩:∃e,l[j]?=some e:=⟨_,Dz cx⟩
   obtain⟨g,o,_,_,_,rfl,I,bN,_,bj,bk,u,d,bZ,b0,b1⟩:=(cp.o.below (jz bJ a4.o.hB a4.o.hBb) Zr).cells bF;obtain⟨aa,ad,rfl,_⟩:=bZ.form;obtain⟨D,F,rfl,_⟩:=b0.form;obtain⟨E,G,rfl,_⟩:=b1.form;have cB:=U bF;have cD:g<wr.heap.size:=by have:=L.o.hB;omega
   have bv:=uu ct.o bF;rw[jW]at bv;simp only[Dv,decide_eq_true_eq]at bv;obtain⟨m',rfl⟩:∃m',m=m'+1:=⟨m-1,O⟩
   rw[Yt]at bv;have aY:=U (co.o m' rfl);have bi:=U bv.1.2;have bu:=U bv.2;have bc:=U bv.1.1.2;have bb:=U bv.1.1.1.2;have bD:Cx wr (wr.alloc (qj k i td (.slice aa tc.length ad) (.slice D tg.length F) (.slice E th.length G))):=Zb.alloc Zr _;have bg:=U bD;have a9:=U (L.o.below bD).renv;have a7:=U ((bD.block b P).trans bO);have bd:=U (bZ.below (bD.mono L.o.hB) (L.o.below bD).hB);have be:=U b0;have bf:=U b1;have bV:=b3.o;rw[fL bF]at bV;have a8:=U bV;have aJ:=U (tC bF);obtain⟨cw,cb⟩:=Cz (qy p ft k i td tc (tf++q) tf.length ti);have aH:=U cb;have ba:=U (show tf.length<=(tf++q).length by rw[Dn];omega);clear bF bZ b0 b1 bv bD bV cb bJ bO;have cC:=sC s;by_cases ca:cw=0
   case neg=>
    go_wp2_with (go_at_call 100;(with_reducible refine(kT _ b p (tf++q) i td tc tf.length _ _ _ _ _ _ _ _ _ _ _ _ af ag ae ft (eH s) _ _ _ bb.o aH.o a9.o a7.o bd.o bc.o ab.o ba.o).mono ?_);rintro e a ⟨rfl,y⟩
                 have f:Cx wr a:=bg.o.trans (y.mono Ut);have H:=(y.block wr.heap.size Ut).trans (Dq wr (qj k i td (.slice aa tc.length ad) (.slice D tg.length F) (.slice E th.length G)));obtain⟨aq,ar,au,av,aw,ax⟩:=zV H;have a1:wr.heap.size<a.heap.size:=Xv
                 have K:=U (Do (a6.o.trans ((dX.wb f P).mono bh)) ((f.block b P).trans aE.o));obtain⟨⟨ai,aj,ak,al,am,an,ao⟩,ap⟩:=zS ((f.block b P).trans aE.o);have a0:b<a.heap.size:=O
                 have W:=C0 (p1 B b p (tf++q) (.slice aT p.wa.length aW) (.slice aU p.funcs.length aX) (.slice Q t S) ae ft af ag s w wr.heap.size (qj k i td (.slice aa tc.length ad) (.slice D tg.length F) (.slice E th.length G)) tg th (.slice D tg.length F) (.slice E th.length G) a) ⟨K.o.1,K.o.2,L.o.below f,H,be.o.below (f.mono L.o.hB) Zr,bf.o.below (f.mono L.o.hB) Zr,Xu,O,aG⟩
                 clear f y H)
    go_ret;have T:=CI (p:=p) (r:=l.drop (j+1)) (tg:=tg) (th:=th) (n:=s) aH.o ca;rw[a8.o]at T;subst T;exact⟨rfl,K.o.1,K.o.2⟩
   case pos=>
    subst ca;by_cases bX:k=1
    case pos=>
     subst bX;have aI:=U (show jE 1 i td (tf++q)=tf++(q++[(⟨td,i⟩:Pa)])by unfold jE;rw[Dm rfl,D7]);cases ti
     .obtain⟨⟨bs,n2⟩,bo⟩:=Cz (zW p ft tg (tf++(q++[(⟨td,i⟩:Pa)])) (tf++(q++[(⟨td,i⟩:Pa)])).length false (s+1))
      have aF:=U bo;clear bo;by_cases bj:bs=0
      case neg=>
       exact Iq
      case pos=>
       subst bj;obtain⟨⟨bt,a5⟩,bp⟩:=Cz (zW p ft th (tf++(q++[(⟨td,i⟩:Pa)])) (tf++(q++[(⟨td,i⟩:Pa)])).length false n2);exact Ip
     .obtain⟨⟨bs,n2⟩,bo⟩:=Cz (zW p ft tg (tf++(q++[(⟨td,i⟩:Pa)])) (tf++(q++[(⟨td,i⟩:Pa)])).length true (s+1))
      have aF:=U bo;clear bo;by_cases bj:bs=0
      case neg=>
       exact Iq
      case pos=>
       subst bj;obtain⟨⟨bt,a5⟩,bp⟩:=Cz (zW p ft th (tf++(q++[(⟨td,i⟩:Pa)])) (tf++(q++[(⟨td,i⟩:Pa)])).length true n2);exact Ip
    case neg=>
     have n1:(k == 1)=false:=by simp[bX]
     have aI:=U (show jE k i td (tf++q)=tf++q by unfold jE;rw[Dl bX]);cases ti
     .obtain⟨⟨bs,n2⟩,bo⟩:=Cz (zW p ft tg (tf++q) (tf++q).length (k == 5) (s+1))
      have aF:=U bo;clear bo;by_cases bj:bs=0
      case neg=>
       exact It
      case pos=>
       subst bj;obtain⟨⟨bt,a5⟩,bp⟩:=Cz (zW p ft th (tf++q) (tf++q).length false n2);exact Ir
     .obtain⟨⟨bs,n2⟩,bo⟩:=Cz (zW p ft tg (tf++q) (tf++q).length true (s+1))
      have aF:=U bo;clear bo;by_cases bj:bs=0
      case neg=>
       exact It
      case pos=>
       subst bj;obtain⟨⟨bt,a5⟩,bp⟩:=Cz (zW p ft th (tf++q) (tf++q).length true n2);exact Ir
  .go_wp2_with fail
   go_ret;have b9:=b3.o;rw[List.drop_of_length_le O,zW]at b9;subst b9;exact⟨rfl,a6.o,aE.o⟩
theorem fV:∀m,BlC m
 |0=>pJ 0 fun _ h=>O
 | m+1=>pJ (m+1) fun m' h=>by
   obtain rfl:m'=m:=O
   exact fV m'
theorem T2(s:C2):s.toList=[]↔s.size=0:=by
 rw[Yh,Ya];exact List.length_eq_zero_iff.symm
section
variable (B:Nat)(op n:Int)(td:C2)(A:Option Addr)(m cap:Nat)(w:C3)
theorem p2(k:Int)(a:k=1\/k=2\/k=4\/k=8):
 Cy 152 #[.agg #[(k:Int),(op:Int),(n:Int),td,(A,m,cap)]] w (Cv (zk k op n td m) w):=by
 rcases a with rfl|rfl|rfl|rfl
 all_goals
  go_enter func152,ntmps152;go_wp2_with fail
  all_goals go_ret
  all_goals refine⟨zC ?_,(Zb.alloc Zr _).alloc Ur _⟩
  all_goals go_light
  all_goals simp_all [zk,eB,T2]
 all_goals omega
theorem p3(k:Int)(f:k=3\/k=6\/k=7)(b:Bool)(c:uH td=b):
 Cy 152 #[.agg #[(k:Int),(op:Int),(n:Int),td,(A,m,cap)]] w (Cv (zk k op n td m) w):=by
 have a:=U c;clear c;cases b
 all_goals rcases f with rfl|rfl|rfl
 all_goals
  go_enter func152,ntmps152;go_wp2_with (go_at_call 106;(with_reducible refine(lT td _ a.o _).mono ?_);rintro e _ ⟨rfl,d⟩;obtain⟨_,_⟩:=qT d)
  all_goals go_ret
  all_goals refine⟨zC ?_,((Zb.alloc Zr _).alloc Ur _).trans (d.mono Uq)⟩
  all_goals have g:=a.o
  all_goals go_light
  all_goals simp_all [zk]
 all_goals omega
theorem wZ(b:d6 B w)(d:B<=w.heap.size):
 Cy 152 #[.agg #[(5:Int),(op:Int),(n:Int),td,(A,m,cap)]] w (Cv (zk 5 op n td m) w):=by
 have c:=U b;clear b;go_enter func152,ntmps152;go_wp2_with (go_at_call 161;(with_reducible refine(M8 op _ (c.o.below ((Zb.alloc d _).alloc Uq _)).rows).mono ?_);rintro e _ ⟨rfl,a⟩;obtain⟨_,_⟩:=qT a)
 all_goals go_ret
 all_goals refine⟨zC ?_,((Zb.alloc Zr _).alloc Ur _).trans (a.mono Uq)⟩
 all_goals go_light
 all_goals simp_all [zk,eB,T2]
 all_goals omega
theorem p4(k:Int)(b:k<1\/8<k):
 Cy 152 #[.agg #[(k:Int),(op:Int),(n:Int),td,(A,m,cap)]] w (Cv (zk k op n td m) w):=by
 have n1:(k == 1)=false:=Uq
 have n2:(k == 2)=false:=Uq
 have c:(k == 3)=false:=Uq
 have d:(k == 4)=false:=Uq
 have e:(k == 5)=false:=Uq
 have f:(k == 6)=false:=Uq
 have g:(k == 7)=false:=Uq
 have i:(k == 8)=false:=Uq
 have a:Dk (zk k op n td m=false):=by
  unfold Dk zk;rw[Dl O,Dl O,Dl O,Dl O,Dl O,Dl O,Dl O,Dl O]
 clear b;go_enter func152,ntmps152;go_wp2_with fail;go_ret;exact⟨zC a.o.symm,(Zb.alloc Zr _).alloc Ur _⟩
theorem w0(k:Int)(e:d6 B w)(d:B<=w.heap.size):
 Cy 152 #[.agg #[(k:Int),(op:Int),(n:Int),td,(A,m,cap)]] w (Cv (zk k op n td m) w):=by
 by_cases a:k=1\/k=2\/k=4\/k=8
 .exact p2 op n td A m cap w k a
 by_cases b:k=3\/k=6\/k=7
 .exact p3 op n td A m cap w k b _ rfl
 by_cases c:k=5
 .subst c
  exact wZ B op n td A m cap w e d
 .exact p4 op n td A m cap w k O
end
theorem fW(B:Nat)(k op n:Int)(td:C2)(A:Option Addr)(m cap:Nat)(b:Bool)(c:zk k op n td m=b)(w:C3)(d:d6 B w)(a:B<=w.heap.size):
 Cy 152 #[.agg #[(k:Int),(op:Int),(n:Int),td,(A,m,cap)]] w (Cv b w):=
 c▸w0 B op n td A m cap w k d a
def T3(k:Nat):Prop:=∀(B:Nat) (d:Int) (l:List Ex) (b:Bool) (v:C4) (w:C3),0<=d->d+k=101->zr l k=b->d6 B w->B<=w.heap.size->xA B w v l->
 Cy 133 #[v,(d:Int)] w (Cv b w)
theorem T3.call{k:Nat}(a:T3 k)(B:Nat)(d:Int)(l:List Ex)(b:Bool)(v:C4)(w:C3)(c:0<=d)(g:d+k=101)(f:zr l k=b)(j:d6 B w)(e:B<=w.heap.size)(i:xA B w v l):
 Cy 133 #[v,(d:Int)] w (Cv b w):=a B d l b v w c g f j e i
theorem gC(k:Nat)(Z:∀i,i+1=k->T3 i):T3 k:=by
 intro B d l b v w _ T R Y m F;have aj:d<=101:=O
 have x:=U T;clear T;obtain⟨A,cap,rfl,_⟩:=F.form;have p:=U Y;have ad:=U F;have s:=U R;have L:=U Z;clear Y F R Z;go_enter func133,ntmps133;go_wp2_with fail
 go_loopw [9] (fun iv wr=>∃j:Nat,j<=l.length/\iv=.int .i64 j/\zr (l.take j) k=true/\Cx w wr) (fun iv _=>l.length-(intOf iv).toNat)
 case atStart=>exact⟨0,Dw _,rfl,um _,D1 _ _⟩
 case round=>
  obtain⟨j,_,rfl,Q,f⟩:=hrel;have I:=U Q;clear Q;have r:=f.size;by_cases ag:j<l.length
  .obtain⟨⟨aa,op,n,td,tc⟩,E⟩:∃e,l[j]?=some e:=⟨_,Dz ag⟩
   have t:=U E;obtain⟨g,o,v,rfl,_,_,_,_,_,_,G⟩:=(ad.o.below (f.mono m) Zr).cells E;obtain⟨_,_,rfl,_⟩:=G.form;have M:=U G;have ak:g<wr.heap.size:=O
   have D:=f.mono m;have q:B<=wr.heap.size:=Dr m r;clear E G;rcases k with _|i
   .have af:decide ((100 :Int)<d)=true:=by have:=x.o;simp;omega
    have ae:Dk (zr l 0=false):=vQ t.o (by rw[ju];simp);go_wp2_with fail;go_ret;exact⟨zC (by rw[<-s.o,ae.o]),f.alloc r _⟩
   .have af:decide ((100 :Int)<d)=false:=by have:=x.o;simp;omega
    have V:(d+1)+(i:Int)=101:=by have:=x.o;omega
    have W:0<=d+1:=O
    have K:=U V;clear V;obtain⟨N,z⟩:=Cz (zk aa op n td tc.length);obtain⟨P,C⟩:=Cz (zr tc i)
    have y:Dk (vA (.mk aa op n td tc) (i+1)=(N&&P)):=by
     unfold Dk;rw[ju,z,Yt,C];simp
    have u:=U z;have J:=U C;clear z C;cases N
    .go_wp2_with (go_at_call 152;(with_reducible refine(fW B _ _ _ _ _ _ _ _ u.o _ (p.o.below (D.alloc q _)) Uq).mono ?_);rintro e ab ⟨rfl,a⟩;obtain⟨S,X⟩:=qT a)
     go_ret;exact⟨zC (by rw[<-s.o,vQ t.o y.o]),(f.alloc r _).trans (a.mono Uq)⟩
    .cases P
     .go_wp2_with (first
       |(go_at_call 152;(with_reducible refine(fW B _ _ _ _ _ _ _ _ u.o _ (p.o.below (D.alloc q _)) Uq).mono ?_);rintro e ab ⟨rfl,a⟩;obtain⟨S,X⟩:=qT a;have ah:=a.size;have c:=(f.alloc r _).trans (a.mono Uq))
       |(go_at_call 133;(with_reducible refine((L.o i rfl).call B _ tc _ _ _ W K.o J.o (p.o.below (c.mono m)) (Dr m c.size) (M.o.below (Zb.alloc q _ |>.trans (a.mono Uq)) Zr)).mono ?_);rintro e ai ⟨rfl,H⟩))
      go_ret;exact⟨zC (by rw[<-s.o,vQ t.o y.o]),c.trans (H.mono c.size)⟩
     .go_wp2_with (first
       |(go_at_call 152;(with_reducible refine(fW B _ _ _ _ _ _ _ _ u.o _ (p.o.below (D.alloc q _)) Uq).mono ?_);rintro e ab ⟨rfl,a⟩;obtain⟨S,X⟩:=qT a;have ah:=a.size;have c:=(f.alloc r _).trans (a.mono Uq))
       |(go_at_call 133;(with_reducible refine((L.o i rfl).call B _ tc _ _ _ W K.o J.o (p.o.below (c.mono m)) (Dr m c.size) (M.o.below (Zb.alloc q _ |>.trans (a.mono Uq)) Zr)).mono ?_);rintro e ai ⟨rfl,H⟩))
      go_roundw
      case rel=>exact⟨j+1,O,by go_num,by rw[j7 t.o,I.o,y.o];rfl,c.trans (H.mono c.size)⟩
      case measure=>simp[intOf];omega
  .go_wp2_with fail
   go_ret;refine⟨zC ?_,f⟩;rw[<-s.o,<-I.o,D9 O]
theorem g7:∀k,T3 k
 |0=>gC 0 (fun _ b=>O)
 | k+1=>gC (k+1) (fun a b=>by
    obtain rfl:a=k:=O
    exact g7 a)
theorem tE(B:Nat)(l:List Ex)(b:Bool)(c:zr l 100=b)(v:C4)(w:C3)(e:d6 B w)(a:B<=w.heap.size)(d:xA B w v l):
 Cy 133 #[v,(1:Int)] w (Cv b w):=g7 100 B 1 l b v w Up Up c e a d
