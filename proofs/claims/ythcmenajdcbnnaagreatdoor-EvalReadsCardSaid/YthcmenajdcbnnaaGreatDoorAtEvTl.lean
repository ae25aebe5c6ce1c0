import Derived.Test.YthcmenajdcbnnaaGreatDoorAtRnBy
set_option linter.unusedSimpArgs false
set_option linter.unusedVariables false
set_option maxRecDepth 100000
set_option maxHeartbeats 99000000
/- A told run in a box of its own: it comes behind the run, or was made ahead of it and is written. -/
namespace Go.Proofs.YthcmenajdcbnnaaGreatDoor
open Lib (hid)
open Go.RowKit
structure RunB (L g:Nat) (vo:Value) (r:Int × Int × List Int × Nat × Nat) (w w':World):Prop where
 bel:Below L w w'
 ge:L<=g
 box:w'.heap[g]? =some (reO r.1 r.2.1 vo r.2.2.2.1 r.2.2.2.2)
 own:RunO L w' vo r
section
variable {L g:Nat} {vo:Value} {r:Int × Int × List Int × Nat × Nat} {w w' w2:World}
theorem RunB.ne(h:RunB L g vo r w w'):vo.ownBlock≠some g:=vu h.own.1 (show Is w' g 35 _ from h.box) I8
theorem RunB.lt(h:RunB L g vo r w w'):g<w'.heap.size:=zB h.box
theorem RunB.below(a:RunB L g vo r w w')(b:Below w'.heap.size w' w2):RunB L g vo r w w2 where
 bel:=a.bel.trans (b.mono (Nat.le_of_lt (Nat.lt_of_le_of_lt a.ge a.lt)))
 ge:=a.ge
 box:=(b.block g a.lt).trans a.box
 own:=a.own.below b Zr
theorem RunB.form(h:RunB L g vo r w w'):∃A c,vo=.slice A r.2.2.1.length c:=zU h.own.1
theorem RunB.runV(h:RunB L g vo r w w'):RunV w'.heap.size w' (runA vo r) r:=h.own.run
theorem RunB.new(b:Below L w w')(a:L<=w'.heap.size)(c:RunO L w' vo r):RunB L w'.heap.size vo r w (w'.alloc (reO r.1 r.2.1 vo r.2.2.2.1 r.2.2.2.2)) where
 bel:=b.alloc a _
 ge:=a
 box:=heap_alloc_new w' _
 own:=c.below (Zb.alloc Zr _) Zr
theorem RunB.put{b:Nat}{f i j l m:Value}(o:Below L w w')(c:L<=g)(d:w'.heap[g]? =some (.cells #[f,i,j,l,m] 35 (0,0)))(a:RunO b w' vo r)(n:L<=b):RunB L g vo r w (((((w'.setCell ⟨g,0,none⟩ (.int .i64 r.1)).setCell ⟨g,1,none⟩ (.int .i64 r.2.1)).setCell ⟨g,2,none⟩ vo).setCell ⟨g,3,none⟩ (.int .i64 r.2.2.2.1)).setCell ⟨g,4,none⟩ (.int .i64 r.2.2.2.2)) where
 bel:=five_below o c _ _ _ _ _
 ge:=c
 box:=five_set d _ _ _ _ _
 own:=⟨(zm a.1 fun k p=>five_other w' (show k≠g from fun e=>vu a.1 (show Is w' g 35 _ from d) I8 (by rw[<-e];exact p)) _ _ _ _ _).mono n,a.2⟩
theorem RunB.fuel(h:RunB L g vo r w w')(m:Nat):RunB L g vo (r.1,r.2.1,r.2.2.1,r.2.2.2.1,m) w (w'.setCell ⟨g,4,none⟩ (.int .i64 (m:Int))) where
 bel:=h.bel.setCell (p:=⟨g,4,none⟩) h.ge _
 ge:=h.ge
 box:=Lib.heap_setCell_same h.box _
 own:=h.own.setOff h.ne
end
theorem rfollows_any(B:Nat)(r x:Int × Int × List Int × Nat × Nat)(E F:Value)(w:World)(A:B<=w.heap.size)(K:RunV B w E r)(q:RunV B w F x)(y:r.1=0)(n:∃l,x.2.2.1=r.2.2.1++l):
 Calls Tryz.prog 23 #[E,F] w fun e w'=>e=.returned (.bool true)/\Below w.heap.size w w':=by
 obtain⟨st,d,out,g,j⟩:=r;obtain⟨m,f,out2,i,k⟩:=x;obtain⟨U,rfl,o,_⟩:=K;obtain⟨V,rfl,p,t⟩:=q;obtain⟨l,n⟩:=n;dsimp only at o p y n ⊢;subst y;have M:out.length<=out2.length:=by rw[n,List.length_append];omega
 have C:decide (out=out2.take out.length)=true:=decide_eq_true (by rw[n,List.take_left'] ;rfl);clear n;obtain⟨b,c,rfl,_⟩:=o.form;obtain⟨a,c2,rfl,_⟩:=p.form;have L:=t _ _ _ rfl;have P:out.length<=c2:=I7
 have z:SlC B w (.slice a out2.length c2) out2:=⟨p,t⟩
 have D:Below w.heap.size w ((w.alloc (reB 0 d (.slice b out.length c) g j)).alloc (reB m f (.slice a out2.length c2) i k)):=(Zb.alloc Zr _).alloc Ic _;have u:((w.alloc (reB 0 d (.slice b out.length c) g j)).alloc (reB m f (.slice a out2.length c2) i k)).heap[w.heap.size]? =some (reB 0 d (.slice b out.length c) g j):=qE (heap_alloc_new w _) _;have v:((w.alloc (reB 0 d (.slice b out.length c) g j)).alloc (reB m f (.slice a out2.length c2) i k)).heap[w.heap.size+1]? =some (reB m f (.slice a out2.length c2) i k):=by have:=heap_alloc_new (w.alloc (reB 0 d (.slice b out.length c) g j)) (reB m f (.slice a out2.length c2) i k);rw[zA]at this;exact this
 have T:((w.alloc (reB 0 d (.slice b out.length c) g j)).alloc (reB m f (.slice a out2.length c2) i k)).heap.size=w.heap.size+2:=by rw[zA,zA]
 have s:=hid D;have N:=hid u;have O:=hid v;have G:=hid o;have H:=hid (slC_cut z M).1;have J:=hid C;obtain⟨⟨X,Y,Z,aa,ab⟩,ad⟩:=zP u;obtain⟨⟨ae,af,ag,ah,ai⟩,aj⟩:=zP v;clear D u v o p t z C L;go_enter Tryz.func23,Tryz.ntmps23;go_wp2_with (fail);generalize(w.alloc (reB 0 d (.slice b out.length c) g j)).alloc (reB m f (.slice a out2.length c2) i k)=W at *;have R:w.heap.size<W.heap.size:=I7
 have S:w.heap.size+1<W.heap.size:=I7
 have Q:(decide ((out.length:Int)<=(out2.length:Int)))=true:=I9
 go_region_law (first
  | (go_simp;go_at_call 30
     (refine(rout_any B out (out2.take out.length) _ _ true J.out W.drew (show B<=W.heap.size by omega) (G.out.below ((s.out.mono A).drew) Zr) (H.out.below ((s.out.mono A).drew) Zr)).mono ?_)
     rintro e w2 ⟨rfl,q⟩;have I:=hid q
     clear q))
 all_goals
  go_wp2_with (fail);go_ret;exact⟨rfl,s.out.trans (Zb.drew.trans (I.out.mono (show w.heap.size<=W.heap.size by omega)))⟩
theorem run_fuel(p:Pr)(d:List Int)(F:Nat):(zZ p d (F:Int)).2.2.2.2<=F:=by
 by_cases c:(vD p).1=0
 .obtain⟨_,_,f,e,_⟩:=yj c
  rw[xc c e,Int.toNat_natCast];have b:=kJ (f:=j9 p F) (fun vs t s=>(qr p F vs t s).le (Nat.zero_le _)) [] f.body (jt p d F);cases hx:qw (j9 p F) [] f.body (jt p d F)with
  | ok a t=>rw[hx]at b;exact b.1.fuel
  | fin t=>rw[hx]at b;exact b.fuel
 .rw[yV c]
  exact Nat.zero_le _
theorem run_more2(p:Pr)(c:List Int)(n m:Nat){r d:Int × Int × List Int × Nat × Nat}(f:zZ p c (2*(n:Int))=r)(j:zZ p c (2*(n:Int)+m)=d):
 r.2.2.2.2<=2*n/\((r.1=0/\r.2.2.2.2=0/\(∃l,d.2.2.1=r.2.2.1++l)/\r.2.2.2.1<=d.2.2.2.1)\/(r.1≠0/\d=(r.1,r.2.1,r.2.2.1,r.2.2.2.1,r.2.2.2.2+m))):=by
 have e:((2*n:Nat):Int)=2*(n:Int):=I7
 have i:((2*n+m:Nat):Int)=2*(n:Int)+m:=I7
 have a:=run_more p c (2*n) m;have g:=run_fuel p c (2*n);rw[e,f]at g;rw[e,i,f,j]at a;refine⟨g,?_⟩;by_cases b:r.1=0
 .rw[if_pos b]at a
  exact .inl ⟨b,a⟩
 .rw[if_neg b]at a
  exact .inr ⟨b,a⟩
theorem lmore7_any(B:Nat)(v aZ:Value)(n m:Nat)(j:List Int)(w:World)(aR:TreeTab B w)(X:B<=w.heap.size)(aS:xe w v)(Y:SlC B w aZ j)(aM:AllR64 j)(bW:n<=255)(bV:m<=255):Calls Tryz.prog 6 #[v,aZ,.int .u8 n,.int .u8 m] w fun e w'=>e=.returned (.bool true)/\Below w.heap.size w w':=by
 obtain⟨bP,bS,rfl,_⟩:=Y.1.form;have aC:=hid aR;have bj:=hid aS;have be:=hid Y;have I:=hid (all_take aM 10);clear aR aS Y aM;have b2:IntKind.i64.wrap (n:Int)=n:=IntWalk.i64_in _ I7;have bY:IntKind.i64.wrap (2*(n:Int))=2*n:=IntWalk.i64_in _ I7;have b1:IntKind.i64.wrap (m:Int)=m:=IntWalk.i64_in _ I7;have bZ:IntKind.i64.wrap (2*(n:Int)+m)=2*n+m:=IntWalk.i64_in _ I7;go_enter Tryz.func6,Tryz.ntmps6
 go_upto_region 5 with(first
  | (go_at_call 15;(with_reducible refine(uK B w aC.out X).mono ?_);rintro e ah ⟨rfl,o⟩
     have bb:=hid o;have bi:=hid (aC.out.below (o.mono X));have bk:=hid (bj.out.below o);have bw:w.heap.size<=ah.heap.size:=o.size
     clear o)
  | (go_at_call 20;(with_reducible refine(good_any B v ah bi.out I7 bk.out).mono ?_);rintro e w2 ⟨p,a8,bl,a9,bm,rfl,o,aL,aQ⟩
     obtain⟨aV,aW,aX,aY⟩:=aL.box;have P:=hid aY;have aD:=hid aW;have M:=hid (bb.out.trans ((o.trans (aV.mono o.size)).mono bw));have z:=hid aQ;have b3:ah.heap.size<=w2.heap.size:=o.size;have ae:=aX
     clear o aL aV aW aX aY aQ))
 generalize w2.alloc (jT a8 p.arrays.length bl a9 p.funcs.length bm)=W2 at *;have b4:=Nat.le_of_eq ae;have b5:=Nat.le_of_eq ae.symm;clear ae;obtain⟨⟨T,U⟩,V⟩:=zO aD.out;have br:w2.heap.size<W2.heap.size:=I7
 have Q:=hid (be.out.below (M.out.mono X) Zr);obtain⟨r,aa⟩:∃r,zZ p (j.take 10) (2*(n:Int))=r:=⟨_,rfl⟩
 have aA:=hid aa;obtain⟨r2,ab⟩:∃r2,zZ p (j.take 10) (2*(n:Int)+m)=r2:=⟨_,rfl⟩
 have aB:=hid ab;have bf:=hid (run_more2 p (j.take 10) n m aa ab);clear aa ab;have ao:=hid (Q.out.below ((Below.refl W2.heap.size W2).drew.mono I7) Zr);have au:=hid (P.out.below (Below.refl W2.heap.size W2).drew);have s:Below W2.heap.size W2 (W2.alloc (reO 0 0 (.slice none 0 0) 0 0)).drew:=(Zb.alloc Zr _).drew;have aT:(W2.alloc (reO 0 0 (.slice none 0 0) 0 0)).drew.heap[W2.heap.size]? =some (reO 0 0 (.slice none 0 0) 0 0):=heap_alloc_new W2 _;have bx:(W2.alloc (reO 0 0 (.slice none 0 0) 0 0)).drew.heap.size=W2.heap.size+1:=zA W2 _;have aH:Below W2.heap.size W2.drew (W2.alloc (reO 0 0 (.slice none 0 0) 0 0)).drew:=⟨s.os,s.tape,s.output,s.size,s.block⟩
 have aq:=hid (Q.out.below (s.mono I7) Zr);have aw:=hid (P.out.below s)
 go_cut [11] (fun af aj=>∃g vo,af=.pointer (some ⟨g,0,none⟩)/\RunB W2.heap.size g vo r W2 aj)
 case first=>
  go_region_law (first
   | (go_simp;go_at_call 18
      (with_reducible refine(ins_any B j _ W2.drew ao.out).mono ?_)
      rintro e ai ⟨ag,rfl,l,rfl⟩;have q:=hid l
      clear l)
   | (go_simp;go_at_call 18
      (with_reducible refine(ins_any B j _ (W2.alloc (reO 0 0 (.slice none 0 0) 0 0)).drew aq.out).mono ?_)
      rintro e ai ⟨ag,rfl,l,rfl⟩;have q:=hid l
      clear l)
   | (go_simp;go_at_call 17
      (with_reducible refine(xu w2.heap.size p (j.take 10) (2*(n:Int)) _ _ _ W2.drew au.out z.out z.out.ln (q.out.below Zb I7) I.out I7 I7).mono ?_)
      rintro e H ⟨vo,rfl,a,d⟩;rw[aA.out]at a ⊢;unfold runA;have A:=hid a;have k:=hid ((Below.refl W2.heap.size W2).drew.trans d);obtain⟨L,W,rfl⟩:=zU a.1
      clear a d)
   | (go_simp;go_at_call 17
      (with_reducible refine(xu w2.heap.size p (j.take 10) (2*(n:Int)) _ _ _ (W2.alloc (reO 0 0 (.slice none 0 0) 0 0)).drew aw.out z.out z.out.ln (by first|exact q.out.below (aH.mono I7) I7|exact q.out.below Zb I7) I.out I7 I7).mono ?_)
      rintro e H ⟨vo,rfl,a,d⟩;rw[aA.out]at a ⊢;unfold runA;have A:=hid a;have k:=hid (s.trans (d.mono (show W2.heap.size<=(W2.alloc (reO 0 0 (.slice none 0 0) 0 0)).drew.heap.size by omega)));have C:=hid ((d.block W2.heap.size I7).trans aT);obtain⟨⟨a1,a2,a3,a4,a5⟩,a6⟩:=zP C.out;obtain⟨L,W,rfl⟩:=zU a.1;have bs:W2.heap.size<H.heap.size:=zB C.out
      clear a d))
  all_goals
   go_wp2_with (fail)
   go_meet
   first
   | exact⟨_,_,rfl,RunB.new k.out k.out.size A.out⟩
   | exact⟨_,_,rfl,RunB.put k.out Zr C.out A.out I7⟩
 case rest=>
 obtain⟨ga,b9,rfl,b⟩:=hcut;clear s aT bx aH ao au aq aw T U V;generalize wc=W4 at *;have ay:=hid b;have b6:W2.heap.size<=W4.heap.size:=b.bel.size;have am:=hid (P.out.below b.bel);have an:=hid (Q.out.below (b.bel.mono I7) Zr);have ad:=(b.bel.block w2.heap.size br).trans aD.out;have bQ:=hid ad;obtain⟨⟨T,U⟩,V⟩:=zO ad;have bX:w2.heap.size<W4.heap.size:=I7
 clear b ad;go_upto_region 6 with(fail);have ap:=hid (an.out.below ((Below.refl W4.heap.size W4).drew.mono I7) Zr);have av:=hid (am.out.below (Below.refl W4.heap.size W4).drew);have t:Below W4.heap.size W4 (W4.alloc (reO 0 0 (.slice none 0 0) 0 0)).drew:=(Zb.alloc Zr _).drew;have aU:(W4.alloc (reO 0 0 (.slice none 0 0) 0 0)).drew.heap[W4.heap.size]? =some (reO 0 0 (.slice none 0 0) 0 0):=heap_alloc_new W4 _;have bz:(W4.alloc (reO 0 0 (.slice none 0 0) 0 0)).drew.heap.size=W4.heap.size+1:=zA W4 _;have aI:Below W4.heap.size W4.drew (W4.alloc (reO 0 0 (.slice none 0 0) 0 0)).drew:=⟨t.os,t.tape,t.output,t.size,t.block⟩
 have ar:=hid (an.out.below (t.mono I7) Zr);have ax:=hid (am.out.below t)
 go_cut [12] (fun af aj=>∃g vo,af=.pointer (some ⟨g,0,none⟩)/\RunB W4.heap.size g vo r2 W4 aj)
 case first=>
  go_region_law (first
   | (go_simp;go_at_call 18
      (with_reducible refine(ins_any B j _ W4.drew ap.out).mono ?_)
      rintro e ai ⟨ag,rfl,l,rfl⟩;have q:=hid l
      clear l)
   | (go_simp;go_at_call 18
      (with_reducible refine(ins_any B j _ (W4.alloc (reO 0 0 (.slice none 0 0) 0 0)).drew ar.out).mono ?_)
      rintro e ai ⟨ag,rfl,l,rfl⟩;have q:=hid l
      clear l)
   | (go_simp;go_at_call 17
      (with_reducible refine(xu w2.heap.size p (j.take 10) (2*(n:Int)+m) _ _ _ W4.drew av.out z.out z.out.ln (q.out.below Zb I7) I.out I7 I7).mono ?_)
      rintro e H ⟨vo,rfl,a,d⟩;rw[aB.out]at a ⊢;unfold runA;have A:=hid a;have k:=hid ((Below.refl W4.heap.size W4).drew.trans d);obtain⟨L,W,rfl⟩:=zU a.1
      clear a d)
   | (go_simp;go_at_call 17
      (with_reducible refine(xu w2.heap.size p (j.take 10) (2*(n:Int)+m) _ _ _ (W4.alloc (reO 0 0 (.slice none 0 0) 0 0)).drew ax.out z.out z.out.ln (by first|exact q.out.below (aI.mono I7) I7|exact q.out.below Zb I7) I.out I7 I7).mono ?_)
      rintro e H ⟨vo,rfl,a,d⟩;rw[aB.out]at a ⊢;unfold runA;have A:=hid a;have k:=hid (t.trans (d.mono (show W4.heap.size<=(W4.alloc (reO 0 0 (.slice none 0 0) 0 0)).drew.heap.size by omega)));have C:=hid ((d.block W4.heap.size I7).trans aU);obtain⟨⟨a1,a2,a3,a4,a5⟩,a6⟩:=zP C.out;obtain⟨L,W,rfl⟩:=zU a.1;have bs:W4.heap.size<H.heap.size:=zB C.out
      clear a d))
  all_goals
   go_wp2_with (fail)
   go_meet
   first
   | exact⟨_,_,rfl,RunB.new k.out k.out.size A.out⟩
   | exact⟨_,_,rfl,RunB.put k.out Zr C.out A.out I7⟩
 case rest=>
 obtain⟨gb,bN,rfl,f⟩:=hcut;clear t aU bz aI ap av ar ax T U V;generalize wc=W6 at *;have b:=ay.out.below (f.bel);have aO:ga<W6.heap.size:=b.lt;have aP:gb<W6.heap.size:=f.lt;have bo:ga≠gb:=by have:=ay.out.lt;have:=f.ge;omega
 have bp:gb≠ga:=fun e=>bo e.symm
 have b7:W4.heap.size<=W6.heap.size:=f.bel.size;have k:=hid (M.out.trans ((b.bel).mono I7));obtain⟨bO,bR,rfl⟩:=b.form;obtain⟨⟨a1,a2,a3,a4,a5⟩,a6⟩:=zP b.box;have al:=hid b.box;rcases bf.out with⟨bq,⟨E,aK,aN,aJ⟩|⟨E,bn⟩⟩
 .have bv:(r.1 == 0)=true:=by simp[E]
  have bT:((r.2.2.2.2:Int) == 0)=true:=by simp[aK]
  have bU:decide ((r.2.2.2.1:Int)<=(r2.2.2.2.1:Int))=true:=I9
  obtain⟨ak,aE,rfl⟩:=f.form;obtain⟨⟨ca,cb,cc,cd,ce⟩,cf⟩:=zP f.box;have O:=hid f.box;have x:=b.runV;have y:=f.runV;unfold runA at x y;have R:=hid x;have S:=hid y;have bg:=hid aN;have ba:=hid E;have bd:=hid aJ;clear b f x y aN E aK bq aJ
  go_wp2_with (go_at_call 23
               (with_reducible refine(rfollows_any W6.heap.size r r2 _ _ W6 Zr R.out S.out ba.out bg.out).mono ?_)
               rintro e a0 ⟨rfl,D⟩;obtain⟨⟨bA,bC,bD,bF,bG⟩,bH⟩:=zP ((D.block ga aO).trans al.out);obtain⟨⟨bI,bJ,bK,bL,q4⟩,bM⟩:=zP ((D.block gb aP).trans O.out);have bt:ga<a0.heap.size:=Nat.lt_of_lt_of_le aO D.size;have bu:gb<a0.heap.size:=Nat.lt_of_lt_of_le aP D.size;have N:=hid D
               clear D)
  go_ret;exact⟨zC (decide_eq_true bd.out),k.out.trans (N.out.mono I7)⟩
 .have bv:(r.1 == 0)=false:=by simp[E]
  subst bn;obtain⟨ak,aE,rfl⟩:∃a7 c,bN=.slice a7 r.2.2.1.length c:=f.form;have aG:W6.heap[gb]? =some (reO r.1 r.2.1 (.slice ak r.2.2.1.length aE) r.2.2.2.1 ((r.2.2.2.2+m:Nat):Int)):=f.box;have b0:IntKind.i64.wrap ((r.2.2.2.2:Int)+m)=r.2.2.2.2+m:=IntWalk.i64_in _ I7;have bh:=hid b;have az:=hid f;have O:=hid aG;clear b f aG;go_upto_region 10 with(fail);have F:=bh.out.fuel (r.2.2.2.2+m);have K:(W6.setCell ⟨ga,4,none⟩ (.int .i64 ((r.2.2.2.2+m:Nat):Int))).heap[gb]? =_:=(Below.heap_setCell W6 ⟨ga,4,none⟩ _ gb bp).trans O.out;have Z:=az.out.own.setOff (i:=4) (u:=.int .i64 ((r.2.2.2.2+m:Nat):Int)) (vu az.out.own.1 (show Is W6 ga 35 _ from al.out) I8);have G:=F.box;dsimp only at G;have J:=F.bel;rw[Int.natCast_add]at G K Z J F;have x:=F.runV;have y:=Z.run;unfold runA at x y;dsimp only at x y;rw[Int.natCast_add]at x y;clear F Z;generalize W6.setCell ⟨ga,4,none⟩ (.int .i64 ((r.2.2.2.2:Int)+m))=W7 at *;obtain⟨⟨bA,bC,bD,bF,bG⟩,bH⟩:=zP G;obtain⟨⟨bI,bJ,bK,bL,q4⟩,bM⟩:=zP K;have bt:ga<W7.heap.size:=zB G;have bu:gb<W7.heap.size:=zB K;have N:=hid (M.out.trans (J.mono I7));have b8:W2.heap.size<=W7.heap.size:=J.size;have R:=hid x;have S:=hid y;clear x y G K J
  go_wp2_with (go_at_call 16
               (with_reducible refine(rsame_eq W7.heap.size _ _ _ W7 Zr R.out S.out).mono ?_)
               rintro e w8 ⟨rfl,aF⟩;have bc:=hid aF
               clear aF)
  go_ret;exact⟨rfl,N.out.trans (bc.out.mono I7)⟩
end Go.Proofs.YthcmenajdcbnnaaGreatDoor
