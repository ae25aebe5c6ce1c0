import Derived.Test.YthcmenajdcbnnaaGreatDoorAtRnNu
set_option linter.unusedSimpArgs false
set_option linter.unusedVariables false
set_option maxRecDepth 100000
set_option maxHeartbeats 99000000
/- A slice of bytes. -/
namespace Go.Proofs.YthcmenajdcbnnaaGreatDoor
open Lib (hid)
open Go.RowKit
theorem UB{p:Prop}(h:p:=by
 go_wp2_with (first
  | (go_at_call 22;(with_reducible refine(ortwo_any _ _ _ _).mono ?_);rintro e az ⟨rfl,rfl⟩)
  | (go_at_call 15;(refine(uK B W3 (A.out.below (q.out.mono C)) I7).mono ?_);rintro e J ⟨rfl,n⟩
     have l:=(n.block c.heap.size g).trans r.out;obtain⟨⟨aj,ak,al,am,an⟩,ao⟩:=zP l;have aq:c.heap.size<J.heap.size:=zB l;have x:=hid n
     clear n l))
 go_ret;exact⟨rfl,q.out.trans (x.out.mono I7)⟩):p:=h
def xe(w:World)(v:Value):Prop:=∃a n c,v=.slice a n c/\n<=9223372036854775807/\(0<n->∃b d,a=some ⟨b,d,none⟩/\b<w.heap.size/\∀k,k<n->∃z:Int,0<=z/\z<=255/\w.cell? ⟨b,d+k,none⟩=some (.int .u8 z))
theorem xe.below{w w':World}{v:Value}(g:xe w v)(a:Below w.heap.size w w'):xe w' v:=by
 obtain⟨f,n,c,rfl,r,j⟩:=g;refine⟨f,n,c,rfl,r,fun s=>?_⟩;obtain⟨b,e,rfl,d,o⟩:=j s;refine⟨b,e,rfl,Nat.lt_of_lt_of_le d a.size,fun k q=>?_⟩;obtain⟨z,i,l,m⟩:=o k q;exact⟨z,i,l,(a.cell (p:=⟨b,e+k,none⟩) d).trans m⟩
def GotF(p:Pr)(e:Int)(f:Nat)(w:World)(x:Ending)(w':World):Prop:=
 ∃a c b d,x=.returned (.tuple #[.agg #[.slice a p.arrays.length c,.slice b p.funcs.length d],.int .i64 e,.int .i64 (f:Int)])/\Below w.heap.size w w'/\FrG w.heap.size w' p (.agg #[.slice a p.arrays.length c,.slice b p.funcs.length d])
theorem parse_frg{w:World}(s:ByteArray){p:Pr}{e:Int}{d:Nat}(l:jf s=(p,e,d)):Calls Tryz.prog 13 #[.string s] w (GotF p e d w):=
 (rparse_any s w).mono fun x w' ⟨k,m,n,c,a,b⟩=>by
   rw[l]at c a b;obtain⟨f,i,rfl,_⟩:=a.form;obtain⟨g,j,rfl,_⟩:=b.form;exact⟨f,i,g,j,c,k,_,_,rfl,a,b⟩
theorem parse_some{w:World}(s:ByteArray):Calls Tryz.prog 13 #[.string s] w fun x w'=>∃p e a,jf s=(p,e,a)/\GotF p e a w x w':=by
 obtain⟨p,e,a,b⟩:∃p e a,jf s=(p,e,a):=⟨_,_,_,rfl⟩
 exact(parse_frg s b).mono fun _ _ c=>⟨p,e,a,b,c⟩
def GoodPost(w:World)(x:Ending)(w':World):Prop:=
 ∃p a c b d,x=.returned (.agg #[.slice a p.arrays.length c,.slice b p.funcs.length d])/\Below w.heap.size w w'/\Laid6 w'.heap.size p (.slice a p.arrays.length c) (.slice b p.funcs.length d) w'/\Small p
section
variable {B:Nat} {w W:World}
theorem Rb.good0(e:Rb w W)(f:TreeTab B w)(b:B<=w.heap.size)(c d:Value):GoodPost w (.returned (.agg #[.slice none 0 0,.slice none 0 0])) (vA W w.heap.size c d):=by
 have a:=e.nest c d;exact⟨pr0,none,0,none,0,rfl,a,(laid0 (f.below (a.mono b)) (Nat.le_trans b a.size)).mono (Nat.le_trans b a.size) Zr,small0⟩
theorem Rb.good1(j:Rb w W)(o:TreeTab B w)(f:B<=w.heap.size){p:Pr}{a b:Option Addr}{c d:Nat}{L:Nat}(m:FrG L W p (.agg #[.slice a p.arrays.length c,.slice b p.funcs.length d]))(i:w.heap.size<L)(n:Small p):GoodPost w (.returned (.agg #[.slice a p.arrays.length c,.slice b p.funcs.length d])) (vA W w.heap.size (.slice a p.arrays.length c) (.slice b p.funcs.length d)):=by
 have e:=j.nest (.slice a p.arrays.length c) (.slice b p.funcs.length d);obtain⟨k,l⟩:=frg_laid (m.keep (zK.nest2 (g:=w.heap.size) i (.slice a p.arrays.length c) (.slice b p.funcs.length d)) (Nat.le_of_lt i));exact⟨p,a,c,b,d,rfl,e,⟨Nat.le_refl _,(o.below (e.mono f)).mono (Nat.le_trans f e.size),k,l⟩,n⟩
end
theorem xe.hole{w:World}{v:Value}(g:xe w v)(o a:Obj):BytesH w.heap.size (w.heap.size+1) ((w.alloc o).alloc a) v:=by
 obtain⟨f,n,c,rfl,t,j⟩:=g;refine⟨f,n,c,rfl,t,fun k s=>?_⟩;obtain⟨b,e,rfl,d,r⟩:=j I7;obtain⟨z,i,l,m⟩:=r k s;have q:Below w.heap.size w ((w.alloc o).alloc a):=(Zb.alloc Zr o).alloc Ia a;exact⟨b,e,rfl,d,I7,z,i,l,(q.cell (p:=⟨b,e+k,none⟩) d).trans m⟩
theorem mk_new{w:World}{v:Value}(h:xe w v)(o:Obj):MkIn (w.heap.size+1) w.heap.size v 0 ((w.alloc o).alloc (mkO v 0)):=
 ⟨by have:=heap_alloc_new (w.alloc o) (mkO v 0);rw[zA]at this;exact this,h.hole _ _,I9⟩
theorem blk_at{m:Nat}(c:m<=3){b d a:Nat}{v:Value}{vs e:ByteArray}{D:Int}{lp:Bool}{w:World}(g:D=(m:Int))(i:MkIn b d v a w)(q:a<=100000000)(j:vs.size=1)(k:e.size=1):
 Calls Tryz.prog 38 #[.pointer (some ⟨b,0,none⟩),.string vs,.string e,.int .i64 D,.bool lp] w (xK 800000 800001 b d v a w):=by
 have t:=tS_le m c;have r:=tP_le m c;exact((bs_all m).1.call c g i I7 j k).mono fun _ _ ⟨s,f,l,x,o,u,p,n⟩=>⟨s,f,l,I7,o,I7,p,n⟩
theorem good_any(B:Nat)(v:Value)(w:World)(H:TreeTab B w)(C:B<=w.heap.size)(I:xe w v):Calls Tryz.prog 20 #[v] w (GoodPost w):=by
 have A:=hid H;have O:=hid (mk_new I yE);have r:=hid ((Rb.start w).alloc (mkO v 0));clear H;obtain⟨K,n,c,rfl,ap,V⟩:=I;clear V;go_enter Tryz.func20,Tryz.ntmps20;go_upto_region 2 with(fail);generalize(w.alloc yE).alloc (mkO (.slice K n c) 0)=W0 at *
 go_upto_region 6 with(first
  | (go_at_call 38;(with_reducible refine(blk_at (m:=2) (D:=2) I8 I8 O.out I7 I8 I8).mono ?_);rintro e aQ ⟨aK,Y,rfl,aq,aj,aA,b,a⟩
     have P:=hid a;have s:=hid (r.out.off b (by have:=r.out.lt;omega) I7)
     clear b a)
  | (go_at_call 39;(with_reducible refine(yk (m:=2) (D:=2) I8 I8 P.out I7 I8 I8).mono ?_);rintro e aR ⟨aL,Z,rfl,ar,ak,aB,b,a⟩
     have Q:=hid a;have t:=hid (s.out.off b (by have:=s.out.lt;omega) I7)
     clear b a)
  | (go_at_call 38;(with_reducible refine(blk_at (m:=1) (D:=1) I8 I8 Q.out I7 I8 I8).mono ?_);rintro e aS ⟨aM,aa,rfl,au,al,aC,b,a⟩
     have R:=hid a;have u:=hid (t.out.off b (by have:=t.out.lt;omega) I7)
     clear b a)
  | (go_at_call 40;(with_reducible refine(tru_at (m:=2) (D:=2) I8 I8 R.out I7 I8 I8).mono ?_);rintro e aT ⟨aN,ab,rfl,av,am,aD,b,a⟩
     have S:=hid a;have x:=hid (u.out.off b (by have:=u.out.lt;omega) I7)
     clear b a)
  | (go_at_call 38;(with_reducible refine(blk_at (m:=3) (D:=3) I8 I8 S.out I7 I8 I8).mono ?_);rintro e aU ⟨aO,ad,rfl,aw,an,aE,b,a⟩
     have T:=hid a;have y:=hid (x.out.off b (by have:=x.out.lt;omega) I7)
     clear b a)
  | (go_at_call 39;(with_reducible refine(yk (m:=2) (D:=2) I8 I8 T.out I7 I8 I8).mono ?_);rintro e W ⟨aP,ae,rfl,ax,ao,aF,b,a⟩
     have X:=hid a;have z:=hid (y.out.off b (by have:=y.out.lt;omega) I7)
     clear b a))
 have ay:=z.out.lt
 go_upto_region 7 with(go_at_call 13;(with_reducible refine(parse_some _).mono ?_);rintro e q ⟨p,k,aG,E,d,g,f,i,rfl,o,F⟩
                       have U:=hid (v8 E);have L:=hid o;have M:=hid F;have az:W.heap.size<=q.heap.size:=o.size
                       clear E o F)
 have N:=hid (M.out.keep (zK.of_below (Zb.alloc Zr (jT d p.arrays.length g f p.funcs.length i))) Zr);have j:=hid ((z.out.below L.out).alloc (jT d p.arrays.length g f p.funcs.length i));have J:=heap_alloc_new q (jT d p.arrays.length g f p.funcs.length i);generalize q.alloc (jT d p.arrays.length g f p.funcs.length i)=W8 at *;obtain⟨⟨aH,aI⟩,aJ⟩:=ku J;obtain⟨⟨af,ag⟩,ah⟩:=j.out.own;clear J;by_cases G:k=0
 .subst G
  obtain⟨l,f1⟩:=j.out.read (.slice d p.arrays.length g) (.slice f p.funcs.length i);go_wp2_with (fail);refine bodyPost_ret (v:=.agg #[.slice d p.arrays.length g,.slice f p.funcs.length i]) (by simp[results,Tryz.results20,go_sem,l,f1]) rfl ?_;exact j.out.good1 A.out C N.out I7 U.out
 .have ai:(k == 0)=false:=by simpa using G
  obtain⟨l,f1⟩:=j.out.read (.slice none 0 0) (.slice none 0 0);go_wp2_with (fail);refine bodyPost_ret (v:=.agg #[.slice none 0 0,.slice none 0 0]) (by simp[results,Tryz.results20,go_sem,l,f1]) rfl ?_;exact j.out.good0 A.out C _ _
theorem all_take{l:List Int}(a:AllR64 l)(n:Nat):AllR64 (l.take n):=fun m b=>a m (List.mem_of_mem_take b)
theorem all_two{a b:Int}(d: -9223372036854775808<=a/\a<=9223372036854775807)(e: -9223372036854775808<=b/\b<=9223372036854775807):AllR64 [a,b]:=fun n c=>by
 rcases List.mem_cons.1 c with rfl|c
 .exact d
 .rw[List.mem_singleton.1 c];exact e
theorem slC_two(w:World)(a b:Int):SlC (w.heap.size+1) (w.alloc (.cells #[.int .i64 a,.int .i64 b] 3)) (.slice (some ⟨w.heap.size,0,none⟩) 2 2) [a,b]:=
 ⟨slI_at (l:=[a,b]) (T:=3) (fr:=(0,0)) (heap_alloc_new w _) (Nat.lt_succ_self _) Ia 2,fun d n c e=>by injection e with _ f g;omega⟩
theorem e2_sg{k:Int}(b:1<=k)(c:k<=11):(jh k).size<=3:=by
 have a:k=1\/k=2\/k=3\/k=4\/k=5\/k=6\/k=7\/k=8\/k=9\/k=10\/k=11:=I7
 rcases a with rfl|rfl|rfl|rfl|rfl|rfl|rfl|rfl|rfl|rfl|rfl <;> decide
theorem e2_parse{B:Nat}{w:World}{k:Int}(d:TreeTab B w)(c:B<=w.heap.size)(a:1<=k)(b:k<=11):Calls Tryz.prog 13 #[.string (⟨#[105,110,116,32,109,97,105,110,40,41,32,123,32,105,110,116,32,120,32,61,32,114,101,97,100,40,41,59,32,105,110,116,32,121,32,61,32,114,101,97,100,40,41,59,32,114,101,116,117,114,110,32,120,32]⟩++jh k++⟨#[32,121,59,32,125]⟩)] w (GotP (xy k) 0 0 w):=
 parse_got6 (e2T k) d c (e2_run a b 0 0).1
theorem ltwo7_any(B:Nat)(a b:Int)(op:Nat)(w:World)(Q:TreeTab B w)(C:B<=w.heap.size)(ap: -9223372036854775808<=a/\a<=9223372036854775807)(f: -9223372036854775808<=b/\b<=9223372036854775807)(aD:op<=255):Calls Tryz.prog 5 #[.int .i64 a,.int .i64 b,.int .u8 op] w fun e w'=>e=.returned (.bool true)/\Below w.heap.size w w':=by
 have A:=hid Q;clear Q;have N:=hid (all_two ap f);have D:1<=1+(op:Int) % 11:=I7
 have E:1+(op:Int) % 11<=11:=I7
 have y:=hid (e2_run D E a b);have aH:=e2_sg D E;have aE:¬9223372036854775807<54+(jh (1+(op:Int) % 11)).size:=I7
 have aF:¬9223372036854775807<54+(jh (1+(op:Int) % 11)).size+5:=I7
 go_enter Tryz.func5,Tryz.ntmps5
 go_upto_region 3 with(first
  | (go_at_call 21;(with_reducible refine(rsign_any _ w).mono ?_);rintro e S ⟨rfl,f⟩
     have V:=hid f;have Y:=hid (A.out.below (f.mono C));have ar:w.heap.size<=S.heap.size:=f.size
     clear f)
  | (go_at_call 13;(with_reducible refine(e2_parse Y.out I7 D E).mono ?_);rintro e u ⟨T,ah,U,ai,rfl,f,P⟩
     obtain⟨i,j,k,R⟩:=P.box;have X:=hid R;have Z:=hid j;have W:=hid ((V.out.trans (f.mono ar)).trans (i.mono (by have:=f.size;omega)));have O:=hid (v8 y.out.1);have aI:S.heap.size<=u.heap.size:=f.size;have I:=k
     clear f P i j k R))
 generalize u.alloc (jT T (xy (1+(op:Int) % 11)).arrays.length ah U (xy (1+(op:Int) % 11)).funcs.length ai)=W2 at *;have aJ:=Nat.le_of_eq I;have aK:=Nat.le_of_eq I.symm;clear I;obtain⟨⟨aA,aB⟩,aC⟩:=zO Z.out;have aG:u.heap.size<W2.heap.size:=I7
 have F:Below W2.heap.size W2 (W2.alloc (.cells #[.int .i64 a,.int .i64 b] 3)):=Zb.alloc Zr _;have M:=hid (slC_two W2 a b);have L:=hid ((X.out.below (F.mono I7)).mono (show u.heap.size<=W2.heap.size+1 by omega) QI);have K:=hid (W.out.trans (F.mono I7));have aL:(W2.alloc (.cells #[.int .i64 a,.int .i64 b] 3)).heap.size=W2.heap.size+1:=zA _ _;clear F;rcases Bool.eq_false_or_eq_true (qj (1+(op:Int) % 11) b)with H|H
 .have z:=hid (show zZ (xy (1+(op:Int) % 11)) [a,b] 50=(1,(qa (1+(op:Int) % 11) a b),[],3,42)by rw[y.out.2,H];rfl)
  go_upto_region 4 with(go_at_call 17;(with_reducible refine(zAa _ _ [a,b] 50 _ _ _ _ L.out O.out M.out N.out I8 I8).mono ?_);rintro e c ⟨ax,rfl,t,m⟩
                        rw[z.out]at t;obtain⟨ay,G,g,_⟩:=t;obtain⟨p,s,rfl,_⟩:=g.form;subst G;obtain⟨i,j,k⟩:=re_box (w:=c) (a:=1) (b:=(qa (1+(op:Int) % 11) a b)) (d:=3) (e:=42) (v:=.slice p 0 s);have r:=hid j;have au:W2.heap.size+1<=c.heap.size:=by have:=m.size;omega
                        have q:=hid ((K.out.trans (m.mono I7)).trans (i.mono I7));have o:=k
                        clear m i j k g)
  generalize c.alloc (reO 1 (qa (1+(op:Int) % 11) a b) (.slice p 0 s) 3 42)=W3 at *;have av:=Nat.le_of_eq o;have aw:=Nat.le_of_eq o.symm;clear o;obtain⟨⟨aa,ab,ad,ae,af⟩,ag⟩:=zP r.out;have g:c.heap.size<W3.heap.size:=I7
  exact UB
 .have z:=hid (show zZ (xy (1+(op:Int) % 11)) [a,b] 50=(2,0,[],3,42)by rw[y.out.2,H];rfl)
  go_upto_region 4 with(go_at_call 17;(with_reducible refine(zAa _ _ [a,b] 50 _ _ _ _ L.out O.out M.out N.out I8 I8).mono ?_);rintro e c ⟨ax,rfl,t,m⟩
                        rw[z.out]at t;obtain⟨ay,G,g,_⟩:=t;obtain⟨p,s,rfl,_⟩:=g.form;subst G;obtain⟨i,j,k⟩:=re_box (w:=c) (a:=2) (b:=0) (d:=3) (e:=42) (v:=.slice p 0 s);have r:=hid j;have au:W2.heap.size+1<=c.heap.size:=by have:=m.size;omega
                        have q:=hid ((K.out.trans (m.mono I7)).trans (i.mono I7));have o:=k
                        clear m i j k g)
  generalize c.alloc (reO 2 0 (.slice p 0 s) 3 42)=W3 at *;have av:=Nat.le_of_eq o;have aw:=Nat.le_of_eq o.symm;clear o;obtain⟨⟨aa,ab,ad,ae,af⟩,ag⟩:=zP r.out;have g:c.heap.size<W3.heap.size:=I7
  exact UB
end Go.Proofs.YthcmenajdcbnnaaGreatDoor
