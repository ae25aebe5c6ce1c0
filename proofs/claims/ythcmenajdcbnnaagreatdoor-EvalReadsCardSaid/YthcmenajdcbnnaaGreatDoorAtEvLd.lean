import Derived.Test.YthcmenajdcbnnaaGreatDoorAtEvTl
import Derived.Test.YthcmenajdcbnnaaGreatDoorAtEvAp
set_option linter.unusedSimpArgs false
set_option linter.unusedVariables false
set_option maxRecDepth 100000
set_option maxHeartbeats 99000000
/- The law: what was not read makes no difference. -/
namespace Go.Proofs.YthcmenajdcbnnaaGreatDoor
open Lib (hid)
open Go.RowKit
theorem lreads7_any(B:Nat)(v am an:Value)(n:Nat)(t u:List Int)(w:World)(aX:TreeTab B w)(J:B<=w.heap.size)(aY:xe w v)(ad:SlC B w am t)(ae:AllR64 t)(aR:NilOK am)(af:SlC B w an u)(aO:AllR64 u)(aS:NilOK an)(ca:n<=255):Calls Tryz.prog 7 #[v,am,an,.int .u8 n] w fun e w'=>e=.returned (.bool true)/\Below w.heap.size w w':=by
 obtain⟨aq,aG,rfl,_⟩:=ad.1.form;obtain⟨ap,aF,rfl,_⟩:=af.1.form;have aE:=hid aX;have bz:=hid aY;have bj:=hid ad;have bm:=hid af;obtain⟨a,E⟩:∃l,t.take 10=l:=⟨_,rfl⟩
 obtain⟨j,D⟩:∃l,u.take 10=l:=⟨_,rfl⟩
 have aH:∀w,SlC B w (.slice aq t.length aG) t->Calls Tryz.prog 18 #[.slice aq t.length aG] w fun e w'=>∃s c,e=.returned (.slice s a.length c)/\SlC B w (.slice s a.length c) a/\NilOK (.slice s a.length c)/\w=w':=fun w Z=>by rw[<-E];exact ins2_any B t _ w Z aR
 have aI:∀w,SlC B w (.slice ap u.length aF) u->Calls Tryz.prog 18 #[.slice ap u.length aF] w fun e w'=>∃s c,e=.returned (.slice s j.length c)/\SlC B w (.slice s j.length c) j/\NilOK (.slice s j.length c)/\w=w':=fun w Z=>by rw[<-D];exact ins2_any B u _ w Z aS
 have T:=hid aH;have bn:=hid aI
 have ab:AllR64 (a++j):=fun x G=>by
  rcases List.mem_append.1 G with G|G
  .exact all_take ae 10 x (E ▸ G)
  .exact all_take aO 10 x (D ▸ G)
 have ay:=hid (show AllR64 a from E ▸ all_take ae 10);have b7:a.length<=10:=by rw[<-E,List.length_take];omega
 have b8:j.length<=10:=by rw[<-D,List.length_take];omega
 obtain⟨H,I⟩:∃l,a++j=l:=⟨_,rfl⟩
 have b9:H.length<=20:=by rw[<-I,List.length_append];omega
 rw[I]at ab;have bd:=hid ab;have ar:=hid I;clear aX aY ad ae af aO aR aS ab aH aI E D I;have cf:IntKind.i64.wrap (n:Int)=n:=IntWalk.i64_in _ I7;have ce:IntKind.i64.wrap (2*(n:Int))=2*n:=IntWalk.i64_in _ I7;go_enter Tryz.func7,Tryz.ntmps7
 go_upto_region 5 with(first
  | (go_at_call 15;(with_reducible refine(uK B w aE.out J).mono ?_);rintro e ao ⟨rfl,i⟩
     have be:=hid i;have bx:=hid (aE.out.below (i.mono J));have bA:=hid (bz.out.below i);have bS:w.heap.size<=ao.heap.size:=i.size
     clear i)
  | (go_at_call 20;(with_reducible refine(good_any B v ao bx.out I7 bA.out).mono ?_);rintro e k ⟨p,a6,bG,a7,bH,rfl,i,aL,aW⟩
     obtain⟨a1,a2,a3,a4⟩:=aL.box;have bh:=hid a4;have bF:=hid a2;have Q:=hid (be.out.trans ((i.trans (a1.mono i.size)).mono bS));have A:=hid aW;have cg:ao.heap.size<=k.heap.size:=i.size;have al:=a3
     clear i aL a1 a2 a3 a4 aW))
 generalize k.alloc (jT a6 p.arrays.length bG a7 p.funcs.length bH)=W2 at *;have ch:=Nat.le_of_eq al;have ci:=Nat.le_of_eq al.symm;clear al;have bQ:k.heap.size<W2.heap.size:=I7
 have au:=hid (bj.out.below (Q.out.mono J) Zr);have bo:=hid (bm.out.below (Q.out.mono J) Zr);have bO:([]:List Int).length+a.length<=1000:=by rw[List.length_nil];omega
 have bP:a.length+j.length<=1000:=I7
 go_upto_region 6 with(fail);have aB:=hid (World.ownsRow_nil W2 W2.heap.size 3 1);generalize Value.slice none 0 0=vz at *
 go_upto_region 7 with(first
  | (go_at_call 18
     (with_reducible refine(T.out W2 au.out).mono ?_)
     rintro e co ⟨a8,bI,rfl,aU,aP,rfl⟩;have bw:=hid aU;have bq:=hid aP
     clear aU aP)
  | (at_builtin;refine app_ints rfl (.tmp 19) (.tmp 21) rfl W2.heap.size vz [] rfl aB.out B a8 bI a rfl bw.out bq.out bO Zr ?_
     intro ck W4 M aM;rw[List.nil_append]at M;obtain⟨a9,bJ,rfl⟩:=zU M;have aC:=hid M;have K:Below W2.heap.size W2 W4:=Zb.grown aM Zr fun q ag=>(qP aB.out q ag).2
     have bg:=hid K;have bp:=hid (bo.out.below (K.mono I7) Zr);have a0:W2.heap.size<=W4.heap.size:=K.size
     clear M aM K))
 go_upto_region 8 with(first
  | (go_at_call 18
     (with_reducible refine(bn.out W4 bp.out).mono ?_)
     rintro e cp ⟨P,Y,rfl,o,aQ,rfl⟩;have z:=hid o;have br:=hid aQ
     clear o aQ)
  | (at_builtin;refine app_ints rfl (.tmp 23) (.tmp 25) rfl W2.heap.size (.slice a9 a.length bJ) a rfl aC.out B P Y j rfl z.out br.out bP a0 ?_
     intro cl W6 b aN;rw[ar.out]at b;obtain⟨ba,bK,rfl⟩:=zU b;have d:Below W2.heap.size W2 W6:=bg.out.grown aN a0 fun q ag=>(qP aC.out q ag).2
     have y:=hid d;have av:=hid (au.out.below (d.mono I7) Zr);have bk:=hid (show SlC W6.heap.size W6 (.slice ba H.length bK) H from⟨own_ints b rfl I7,own_capV b⟩);have C:=hid ((d.block k.heap.size bQ).trans bF.out);have S:=hid (bh.out.below (d.mono Zr));have bT:W2.heap.size<=W6.heap.size:=d.size
     clear b aN d))
 have aV:k.heap.size<W6.heap.size:=I7
 obtain⟨⟨V,W⟩,X⟩:=zO C.out;obtain⟨r,ah⟩:∃r,zZ p a (2*(n:Int))=r:=⟨_,rfl⟩
 have aD:=hid ah;obtain⟨r2,ai⟩:∃r2,zZ p H (2*(n:Int))=r2:=⟨_,rfl⟩
 have bv:=hid ai;have aT:r.1=4\/r2=r:=by rw[<-ah,<-ai,<-ar.out];exact run_reads p a j _
 have bs:=hid aT;clear ah ai aT;have aw:=hid (av.out.below ((Below.refl W6.heap.size W6).drew.mono I7) Zr);have az:=hid (S.out.below (Below.refl W6.heap.size W6).drew);have m:Below W6.heap.size W6 (W6.alloc (reO 0 0 (.slice none 0 0) 0 0)).drew:=(Zb.alloc Zr _).drew;have aZ:(W6.alloc (reO 0 0 (.slice none 0 0) 0 0)).drew.heap[W6.heap.size]? =some (reO 0 0 (.slice none 0 0) 0 0):=heap_alloc_new W6 _;have bV:(W6.alloc (reO 0 0 (.slice none 0 0) 0 0)).drew.heap.size=W6.heap.size+1:=zA W6 _;have aK:Below W6.heap.size W6.drew (W6.alloc (reO 0 0 (.slice none 0 0) 0 0)).drew:=⟨m.os,m.tape,m.output,m.size,m.block⟩
 have ax:=hid (av.out.below (m.mono I7) Zr);have aA:=hid (S.out.below m)
 go_cut [12] (fun bW bY=>∃g O,bW=.pointer (some ⟨g,0,none⟩)/\RunB W6.heap.size g O r W6 bY)
 case first=>
  go_region_law (first
   | (go_simp;go_at_call 18
      (with_reducible refine(T.out W6.drew aw.out).mono ?_)
      rintro e bX ⟨P,Y,rfl,o,_,rfl⟩;have z:=hid o
      clear o)
   | (go_simp;go_at_call 18
      (with_reducible refine(T.out (W6.alloc (reO 0 0 (.slice none 0 0) 0 0)).drew ax.out).mono ?_)
      rintro e bX ⟨P,Y,rfl,o,_,rfl⟩;have z:=hid o
      clear o)
   | (go_simp;go_at_call 17
      (with_reducible refine(xu k.heap.size p (a) (2*(n:Int)) _ _ _ W6.drew az.out A.out A.out.ln (z.out.below Zb I7) ay.out I7 I7).mono ?_)
      rintro e a5 ⟨O,rfl,b,d⟩;rw[aD.out]at b ⊢;unfold runA;have U:=hid b;have y:=hid ((Below.refl W6.heap.size W6).drew.trans d);obtain⟨bc,bM,rfl⟩:=zU b.1
      clear b d)
   | (go_simp;go_at_call 17
      (with_reducible refine(xu k.heap.size p (a) (2*(n:Int)) _ _ _ (W6.alloc (reO 0 0 (.slice none 0 0) 0 0)).drew aA.out A.out A.out.ln (by first|exact z.out.below (aK.mono I7) I7|exact z.out.below Zb I7) ay.out I7 I7).mono ?_)
      rintro e a5 ⟨O,rfl,b,d⟩;rw[aD.out]at b ⊢;unfold runA;have U:=hid b;have y:=hid (m.trans (d.mono (show W6.heap.size<=(W6.alloc (reO 0 0 (.slice none 0 0) 0 0)).drew.heap.size by omega)));have C:=hid ((d.block W6.heap.size I7).trans aZ);obtain⟨⟨bZ,b0,b1,b2,b3⟩,b4⟩:=zP C.out;obtain⟨bc,bM,rfl⟩:=zU b.1;have aV:W6.heap.size<a5.heap.size:=zB C.out
      clear b d))
  all_goals
   go_wp2_with (fail)
   go_meet
   first
   | exact⟨_,_,rfl,RunB.new y.out y.out.size U.out⟩
   | exact⟨_,_,rfl,RunB.put y.out Zr C.out U.out I7⟩
 case rest=>
 obtain⟨bN,cm,rfl,f⟩:=hcut;clear m aZ bV aK aw az ax aA V W X;generalize wc=W8 at *;have bt:=hid f;have bU:W6.heap.size<=W8.heap.size:=f.bel.size;have bi:=hid ((S.out.below f.bel).mono (show k.heap.size<=W6.heap.size by omega) bU);have bl:=hid (bk.out.below f.bel Zr);obtain⟨⟨V,W⟩,X⟩:=zO ((f.bel.block k.heap.size aV).trans C.out);have cb:k.heap.size<W8.heap.size:=I7
 clear f
 go_upto_region 10 with(first
  | (go_at_call 17
     (with_reducible refine(xu W6.heap.size p H (2*(n:Int)) _ _ _ W8 bi.out A.out A.out.ln bl.out bd.out I7 I7).mono ?_)
     rintro e w9 ⟨O,rfl,N,L⟩;rw[bv.out]at N ⊢;unfold runA;have bu:=hid (RunB.new L L.size N);obtain⟨bb,bL,rfl⟩:=zU N.1;have cj:W8.heap.size<=w9.heap.size:=L.size
     clear N L))
 generalize w9.alloc (reO r2.1 r2.2.1 (.slice bb r2.2.2.1.length bL) r2.2.2.2.1 r2.2.2.2.2)=W9 at *;have F:=bu.out;have f:=bt.out.below F.bel;obtain⟨b5,b6,rfl⟩:=f.form;obtain⟨⟨bZ,b0,b1,b2,b3⟩,b4⟩:=zP f.box;obtain⟨⟨cq,cr,cs,ct,cu⟩,cv⟩:=zP F.box;have cc:bN<W9.heap.size:=f.lt;have cd:w9.heap.size<W9.heap.size:=F.lt;have R:=hid (Q.out.trans ((y.out.trans (f.bel.mono bT)).mono I7));have aj:=f.runV;have ak:=F.runV;unfold runA at aj ak;have bC:=hid aj;have bD:=hid ak;clear f F aj ak V W X;by_cases aa:r.1=4
 .have bR:(r.1 == 4)=true:=by simp[aa]
  go_wp2_with (fail);go_ret;exact⟨rfl,R.out⟩
 .have bR:(r.1 == 4)=false:=by simp[aa]
  have D:r2=r:=bs.out.resolve_left aa;subst D
  go_wp2_with (go_at_call 16
               (with_reducible refine(rsame_eq W9.heap.size _ _ _ W9 Zr bC.out bD.out).mono ?_)
               rintro e cn ⟨rfl,aJ⟩;have bf:=hid aJ
               clear aJ)
  go_ret;exact⟨rfl,R.out.trans (bf.out.mono R.out.size)⟩
end Go.Proofs.YthcmenajdcbnnaaGreatDoor
