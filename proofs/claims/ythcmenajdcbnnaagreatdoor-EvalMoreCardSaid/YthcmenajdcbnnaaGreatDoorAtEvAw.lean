import Derived.Test.YthcmenajdcbnnaaGreatDoorAtTokRefC
import Derived.Lib.ItoaLen
set_option linter.unusedSimpArgs false
set_option linter.unusedVariables false
set_option maxRecDepth 100000
set_option maxHeartbeats 99000000
/- The law's awake: three runs. -/
namespace Go.Proofs.YthcmenajdcbnnaaGreatDoor
open Lib (hid)
open Go.RowKit
theorem OR{p:Prop}(h:p:=by
 go_quiet (fail)
 go_wp2_with (fail);go_ret;exact⟨0,I7,p,rfl,d.out.drewN _,f.out⟩):p:=h
def awE1:ByteArray:=⟨#[105,110,116,32,109,97,105,110,40,41,32,123,32,112,114,105,110,116,40,54,32,42,32,55,41,59,32,114,101,116,117,114,110,32,49,32,47,32,48,59,32,125]⟩
def awE2:ByteArray:=⟨#[105,110,116,32,102,40,105,110,116,32,110,41,32,123,32,105,102,32,40,110,32,60,32,50,41,32,123,32,114,101,116,117,114,110,32,49,59,32,125,32,114,101,116,117,114,110,32,110,32,42,32,102,40,110,32,45,32,49,41,59,32,125,32,105,110,116,32,109,97,105,110,40,41,32,123,32,114,101,116,117,114,110,32,102,40,114,101,97,100,40,41,41,59,32,125]⟩
def awF1:Pr:=(jf awE1).1
def awF2:Pr:=(jf awE2).1
theorem awg1:jf awE1=(awF1,0,0):=by kernel_rfl
theorem awg2:jf awE2=(awF2,0,0):=by kernel_rfl
theorem awe1:zZ awF1 [] 100=(2,0,[42],3,92):=by kernel_rfl
theorem awe3:zZ awF2 [5] 20=(0,0,[],6,0):=by kernel_rfl
theorem awe2:zZ awF2 [5] 200=(1,120,[],19,147):=by kernel_rfl
theorem awk1:awF1.arrays.length=0/\awF1.funcs.length=1:=⟨by kernel_rfl,by kernel_rfl⟩
theorem awk2:awF2.arrays.length=0/\awF2.funcs.length=2:=⟨by kernel_rfl,by kernel_rfl⟩
theorem awp1{B:Nat}{w:World}(j:TreeTab B w)(g:B<=w.heap.size):Calls Tryz.prog 13 #[.string ⟨#[105,110,116,32,109,97,105,110,40,41,32,123,32,112,114,105,110,116,40,54,32,42,32,55,41,59,32,114,101,116,117,114,110,32,49,32,47,32,48,59,32,125]⟩] w fun x w'=>∃a c b d,x=.returned (.tuple #[.agg #[.slice a 0 c,.slice b 1 d],.int .i64 0,.int .i64 0])/\Below w.heap.size w w'/\Laid6 w'.heap.size awF1 (.slice a 0 c) (.slice b 1 d) w':=
 (parse_got6 awE1 j g awg1).mono fun x w' ⟨a,c,b,d,e,i,f⟩=>by rw[awk1.1,awk1.2]at e f;exact⟨a,c,b,d,e,i,f⟩
theorem awp2{B:Nat}{w:World}(j:TreeTab B w)(g:B<=w.heap.size):Calls Tryz.prog 13 #[.string ⟨#[105,110,116,32,102,40,105,110,116,32,110,41,32,123,32,105,102,32,40,110,32,60,32,50,41,32,123,32,114,101,116,117,114,110,32,49,59,32,125,32,114,101,116,117,114,110,32,110,32,42,32,102,40,110,32,45,32,49,41,59,32,125,32,105,110,116,32,109,97,105,110,40,41,32,123,32,114,101,116,117,114,110,32,102,40,114,101,97,100,40,41,41,59,32,125]⟩] w fun x w'=>∃a c b d,x=.returned (.tuple #[.agg #[.slice a 0 c,.slice b 2 d],.int .i64 0,.int .i64 0])/\Below w.heap.size w w'/\Laid6 w'.heap.size awF2 (.slice a 0 c) (.slice b 2 d) w':=
 (parse_got6 awE2 j g awg2).mono fun x w' ⟨a,c,b,d,e,i,f⟩=>by rw[awk2.1,awk2.2]at e f;exact⟨a,c,b,d,e,i,f⟩
theorem awx1{B:Nat}{d e f:Value}{w:World}(i:Laid6 B awF1 d e w)(k:SlC B w f [])(l:AllR64 []):Calls Tryz.prog 17 #[.agg #[d,e],f,.int .i64 100] w fun x w'=>∃a b,x=.returned (.agg #[.int .i64 2,.int .i64 0,.slice a 1 b,.int .i64 3,.int .i64 92])/\SlI w'.heap.size w' (.slice a 1 b) [42]/\Below w.heap.size w w':=
 (zAa B awF1 [] 100 d e f w i (v8 awg1) k l I8 I8).mono fun x w' ⟨v,m,⟨n,g,c,_⟩,j⟩=>by
   rw[awe1]at g c;obtain⟨a,b,rfl,_⟩:=c.form;exact⟨a,b,by rw[m,g];rfl,c,j⟩
theorem awx2{B:Nat}{d e f:Value}{w:World}(i:Laid6 B awF2 d e w)(k:SlC B w f [5])(l:AllR64 [5]):Calls Tryz.prog 17 #[.agg #[d,e],f,.int .i64 200] w fun x w'=>∃a b,x=.returned (.agg #[.int .i64 1,.int .i64 120,.slice a 0 b,.int .i64 19,.int .i64 147])/\SlI w'.heap.size w' (.slice a 0 b) []/\Below w.heap.size w w':=
 (zAa B awF2 [5] 200 d e f w i (v8 awg2) k l I8 I8).mono fun x w' ⟨v,m,⟨n,g,c,_⟩,j⟩=>by
   rw[awe2]at g c;obtain⟨a,b,rfl,_⟩:=c.form;exact⟨a,b,by rw[m,g];rfl,c,j⟩
theorem awx3{B:Nat}{d e f:Value}{w:World}(i:Laid6 B awF2 d e w)(k:SlC B w f [5])(l:AllR64 [5]):Calls Tryz.prog 17 #[.agg #[d,e],f,.int .i64 20] w fun x w'=>∃a b,x=.returned (.agg #[.int .i64 0,.int .i64 0,.slice a 0 b,.int .i64 6,.int .i64 0])/\SlI w'.heap.size w' (.slice a 0 b) []/\Below w.heap.size w w':=
 (zAa B awF2 [5] 20 d e f w i (v8 awg2) k l I8 I8).mono fun x w' ⟨v,m,⟨n,g,c,_⟩,j⟩=>by
   rw[awe3]at g c;obtain⟨a,b,rfl,_⟩:=c.form;exact⟨a,b,by rw[m,g];rfl,c,j⟩
theorem slC_nil(B:Nat)(w:World):SlC B w (.slice none 0 0) []:=⟨yH B w,fun a n c e=>by injection e with _ b _;omega⟩
theorem all_nil:AllR64 []:=fun n a=>Ii
theorem all_five:AllR64 [5]:=fun n a=>by rw[List.mem_singleton.1 a];exact⟨I8,I8⟩
theorem slC_five(w:World):SlC (w.heap.size+1) (w.alloc (.cells #[.int .i64 5] 3)) (.slice (some ⟨w.heap.size,0,none⟩) 1 1) [5]:=
 ⟨slI_at (l:=[5]) (T:=3) (fr:=(0,0)) (heap_alloc_new w _) (Nat.lt_succ_self _) I8 1,fun a n c e=>by injection e with _ b d;omega⟩
theorem re_box{w:World}{a b d e:Int}{v:Value}:Below w.heap.size w (w.alloc (reO a b v d e))/\(w.alloc (reO a b v d e)).heap[w.heap.size]? =some (reO a b v d e)/\(w.alloc (reO a b v d e)).heap.size=w.heap.size+1:=
 ⟨Zb.alloc Zr _,heap_alloc_new w _,zA _ _⟩
theorem uK(B:Nat)(w:World)(R:TreeTab B w)(P:B<=w.heap.size):Calls Tryz.prog 15 #[] w fun e w'=>e=.returned (.bool true)/\Below w.heap.size w w':=by
 have K:=hid R;clear R;go_enter Tryz.func15,Tryz.ntmps15
 go_upto_region 2 with(go_at_call 13;(with_reducible refine(awp1 K.out P).mono ?_);rintro e F ⟨S,aF,T,aG,rfl,c,u⟩
                       obtain⟨g,j,k,x⟩:=u.box;have ad:=hid x;have aC:=hid j;have W:=hid (c.trans (g.mono c.size));have aV:w.heap.size<=F.heap.size:=c.size;have z:=k
                       clear c u g j k x)
 generalize F.alloc (jT S 0 aF T 1 aG)=W1 at *;have aW:=Nat.le_of_eq z;have aX:=Nat.le_of_eq z.symm;clear z;obtain⟨⟨q,r⟩,s⟩:=zO aC.out;have aS:F.heap.size<W1.heap.size:=I7
 go_upto_region 3 with(go_at_call 17;(with_reducible refine(awx1 ad.out (slC_nil _ _) all_nil).mono ?_);rintro e l ⟨Ar,M,rfl,Q,c⟩
                       obtain⟨g,j,k⟩:=re_box (w:=l) (a:=2) (b:=0) (d:=3) (e:=92) (v:=.slice Ar 1 M);have av:=hid (Q.below g Zr);have an:=hid j;have aY:W1.heap.size<=l.heap.size:=c.size;have I:=hid ((W.out.trans (c.mono I7)).trans (g.mono I7));have A:=k
                       clear c Q g j k)
 generalize l.alloc (reO 2 0 (.slice Ar 1 M) 3 92)=W2 at *;have aZ:=Nat.le_of_eq A;have a0:=Nat.le_of_eq A.symm;clear A q r s;have aB:=hid (K.out.below (I.out.mono P))
 go_upto_region 4 with(go_at_call 13;(with_reducible refine(awp2 aB.out I7).mono ?_);rintro e m ⟨U,aH,V,aI,rfl,c,u⟩
                       obtain⟨g,j,k,x⟩:=u.box;have ae:=hid x;have L:=hid j;have aK:W2.heap.size<=m.heap.size:=c.size;have f:=c.trans (g.mono aK);have X:=hid (I.out.trans (f.mono I7));have aw:=hid (av.out.below (f.mono I7) Zr);have ao:=hid ((f.block l.heap.size I7).trans an.out);have C:=k
                       clear c u g j k x f)
 generalize m.alloc (jT U 0 aH V 2 aI)=W3 at *;have a1:=Nat.le_of_eq C;have a2:=Nat.le_of_eq C.symm;clear C;obtain⟨⟨q,r⟩,s⟩:=zO L.out;have aT:m.heap.size<W3.heap.size:=I7
 have n:Below W3.heap.size W3 (W3.alloc (.cells #[.int .i64 5] 3)):=Zb.alloc Zr _;have ah:=hid (slC_five W3);have J:=hid ((ae.out.below (n.mono I7)).mono (show m.heap.size<=W3.heap.size+1 by omega) QI);have Y:=hid (X.out.trans (n.mono I7));have aD:=hid ((n.block m.heap.size I7).trans L.out);have ax:=hid (aw.out.below (n.mono I7) Zr);have ap:=hid ((n.block l.heap.size I7).trans ao.out);have aL:(W3.alloc (.cells #[.int .i64 5] 3)).heap.size=W3.heap.size+1:=zA _ _;clear n
 go_upto_region 5 with(go_at_call 17;(with_reducible refine(awx2 J.out ah.out all_five).mono ?_);rintro e p ⟨G,N,rfl,_,c⟩
                       obtain⟨g,j,k⟩:=re_box (w:=p) (a:=1) (b:=120) (d:=19) (e:=147) (v:=.slice G 0 N);have a3:W3.heap.size+1<=p.heap.size:=QR
                       have f:=c.trans (g.mono I7);have aE:=hid ((f.block m.heap.size I7).trans aD.out);have ay:=hid (ax.out.below (f.mono I7) Zr);have aq:=hid ((f.block l.heap.size I7).trans ap.out);have ak:=hid j;have af:=hid (J.out.below (f.mono I7));have Z:=hid (Y.out.trans (f.mono I7));have D:=k
                       clear c g j k f)
 generalize p.alloc (reO 1 120 (.slice G 0 N) 19 147)=W5 at *;have a4:=Nat.le_of_eq D;have a5:=Nat.le_of_eq D.symm;clear D q r s aL;obtain⟨⟨q,r⟩,s⟩:=zO aE.out;have aU:m.heap.size<W5.heap.size:=I7
 have o:Below W5.heap.size W5 (W5.alloc (.cells #[.int .i64 5] 3)):=Zb.alloc Zr _;have ai:=hid (slC_five W5);have ag:=hid ((af.out.below (o.mono I7)).mono (show W3.heap.size+1<=W5.heap.size+1 by omega) QI);have aa:=hid (Z.out.trans (o.mono I7));have az:=hid (ay.out.below (o.mono I7) Zr);have ar:=hid ((o.block l.heap.size I7).trans aq.out);have al:=hid ((o.block p.heap.size I7).trans ak.out);have a6:(W5.alloc (.cells #[.int .i64 5] 3)).heap.size=W5.heap.size+1:=zA _ _;clear o
 go_upto_region 6 with(go_at_call 17;(with_reducible refine(awx3 ag.out ai.out all_five).mono ?_);rintro e y ⟨H,O,rfl,_,c⟩
                       obtain⟨g,j,k⟩:=re_box (w:=y) (a:=0) (b:=0) (d:=6) (e:=0) (v:=.slice H 0 O);have a7:W5.heap.size+1<=y.heap.size:=QR
                       have f:=c.trans (g.mono I7);have aA:=hid (az.out.below (f.mono I7) Zr);have au:=hid ((f.block l.heap.size I7).trans ar.out);have am:=hid ((f.block p.heap.size I7).trans al.out);have aj:=hid j;have ab:=hid (aa.out.trans (f.mono I7));have E:=k
                       clear c g j k f)
 generalize y.alloc (reO 0 0 (.slice H 0 O) 6 0)=W7 at *;have a8:=Nat.le_of_eq E;have a9:=Nat.le_of_eq E.symm;clear E q r s;obtain⟨⟨ba,bb,bc,bd,be⟩,bf⟩:=zP au.out;obtain⟨⟨bg,bh,bi,bj,bk⟩,bl⟩:=zP am.out;obtain⟨⟨bm,bn,bo,bp,bq⟩,br⟩:=zP aj.out;obtain⟨aJ,or,rfl,aO,aM⟩:=aA.out.cells (i:=0) (t:=42) rfl;rw[Nat.add_zero]at aM;have aR:l.heap.size<W7.heap.size:=I7
 have aQ:p.heap.size<W7.heap.size:=I7
 have aP:y.heap.size<W7.heap.size:=I7
 have aN:aJ<W7.heap.size:=I7
 go_wp2_with (fail);go_ret;exact⟨rfl,ab.out⟩
abbrev reB(a b:Int)(v:Value)(d e:Int):Obj:=.cells #[.int .i64 a,.int .i64 b,v,.int .i64 d,.int .i64 e] 35
theorem rsame_eq(B:Nat)(r:Int × Int × List Int × Nat × Nat)(u v:Value)(w:World)(s:B<=w.heap.size)(E:RunV B w u r)(j:RunV B w v r):
 Calls Tryz.prog 16 #[u,v] w fun e w'=>e=.returned (.bool true)/\Below w.heap.size w w':=by
 obtain⟨st,a,out,b,c⟩:=r;obtain⟨T,rfl,k,_⟩:=E;obtain⟨U,rfl,l,_⟩:=j;dsimp only at k l ⊢;obtain⟨d,g,rfl,_⟩:=k.form;obtain⟨f,i,rfl,_⟩:=l.form;have t:Below w.heap.size w ((w.alloc (reB st a (.slice d out.length g) b c)).alloc (reB st a (.slice f out.length i) b c)):=(Zb.alloc Zr _).alloc Ic _;have n:((w.alloc (reB st a (.slice d out.length g) b c)).alloc (reB st a (.slice f out.length i) b c)).heap[w.heap.size]? =some (reB st a (.slice d out.length g) b c):=qE (heap_alloc_new w _) _;have p:((w.alloc (reB st a (.slice d out.length g) b c)).alloc (reB st a (.slice f out.length i) b c)).heap[w.heap.size+1]? =some (reB st a (.slice f out.length i) b c):=by have:=heap_alloc_new (w.alloc (reB st a (.slice d out.length g) b c)) (reB st a (.slice f out.length i) b c);rw[zA]at this;exact this
 have H:((w.alloc (reB st a (.slice d out.length g) b c)).alloc (reB st a (.slice f out.length i) b c)).heap.size=w.heap.size+2:=by rw[zA,zA]
 have m:=hid t;have C:=hid n;have D:=hid p;have y:=hid k;have z:=hid l;obtain⟨⟨V,W,X,Y,Z⟩,aa⟩:=zP n;obtain⟨⟨ab,ad,ae,af,ag⟩,ah⟩:=zP p;clear t n p k l;go_enter Tryz.func16,Tryz.ntmps16
 go_wp2_with (go_at_call 30
              (with_reducible refine(rout_any B out out _ _ true (decide_eq_true rfl) _ I7 (y.out.below (m.out.mono s) Zr) (z.out.below (m.out.mono s) Zr)).mono ?_)
              rintro e x ⟨rfl,j⟩;have o:=(j.block w.heap.size I7).trans C.out;have q:=(j.block (w.heap.size+1) I7).trans D.out;obtain⟨⟨I,J,K,L,M⟩,N⟩:=zP o;obtain⟨⟨O,P,Q,R,q4⟩,S⟩:=zP q;have F:w.heap.size<x.heap.size:=zB o;have G:w.heap.size+1<x.heap.size:=zB q;have A:=hid j
              clear j o q)
 go_ret;exact⟨Ia,m.out.trans (A.out.mono I7)⟩
abbrev mkO(v:Value)(a:Int):Obj:=.cells #[v,.int .i64 a] 85
def BytesH(N b:Nat)(w:World)(v:Value):Prop:=∃a n c,v=.slice a n c/\n<=9223372036854775807/\∀k,k<n->∃g d,a=some ⟨g,d,none⟩/\g<N/\g≠b/\∃z:Int,0<=z/\z<=255/\w.cell? ⟨g,d+k,none⟩=some (.int .u8 z)
theorem BytesH.off{N b:Nat}{w w':World}{v:Value}(f:BytesH N b w v)(r:OffB b N w w'):BytesH N b w' v:=by
 obtain⟨e,n,c,rfl,q,j⟩:=f;refine⟨e,n,c,rfl,q,fun k p=>?_⟩;obtain⟨g,s,o,d,a,z,i,l,m⟩:=j k p;exact⟨g,s,o,d,a,z,i,l,(r.cell d a).trans m⟩
theorem pick_any(b a N:Nat)(v:Value)(q:Int)(w:World)(j:w.heap[b]? =some (mkO v a))(K:BytesH N b w v)(V:N<=w.heap.size)(W:a<=1000000000)(p:0<q)(ad:q<=1000000):
 Calls Tryz.prog 76 #[.pointer (some ⟨b,0,none⟩),.int .i64 q] w fun e w'=>∃r:Int,0<=r/\r<q/\e=.returned (.int .i64 r)/\OffB b w.heap.size w w'/\w'.heap[b]? =some (mkO v ((a+1 :Nat):Int)):=by
 obtain⟨D,n,c,rfl,ab,u⟩:=K;have t:b<w.heap.size:=zB j;obtain⟨⟨P,Q⟩,R⟩:=zO j;have O:=hid j;have E:=hid u;have A:(w.setCell ⟨b,1,none⟩ (.int .i64 ((a:Int)+1))).heap[b]? =some (mkO (.slice D n c) ((a+1 :Nat):Int)):=Lib.heap_setCell_same j _;have y:OffB b w.heap.size w (w.setCell ⟨b,1,none⟩ (.int .i64 ((a:Int)+1))):=(OffB.refl _ _ _).setb t 1 _;have C:(w.setCell ⟨b,1,none⟩ (.int .i64 ((a:Int)+1))).heap.size=w.heap.size:=Id
 have f:=hid A;have d:=hid y;have k:=hid C;clear j u A y C;go_enter Tryz.func76,Tryz.ntmps76;go_upto_region 2 with(fail);obtain⟨l,o⟩:∃x,x=w.setCell ⟨b,1,none⟩ (.int .i64 ((a:Int)+1)):=⟨_,rfl⟩
 rw[<-o]at f d k;simp only[<-o];have X:b<l.heap.size:=by rw[k.out];exact t
 obtain⟨⟨S,T⟩,U⟩:=zO f.out;clear o;have L:(n:Int)<(a:Int)+1\/¬(n:Int)<(a:Int)+1/\(120 :Int)<(a:Int)+1\/¬(n:Int)<(a:Int)+1/\¬(120 :Int)<(a:Int)+1:=I7
 rcases L with i|⟨i,m⟩|⟨i,m⟩
 .have s:decide ((n:Int)<(a:Int)+1)=true:=by simpa using i
  exact OR
 .have s:decide ((n:Int)<(a:Int)+1)=false:=by simpa using i
  have F:decide ((120 :Int)<(a:Int)+1)=true:=by simpa using m
  exact OR
 .have s:decide ((n:Int)<(a:Int)+1)=false:=by simpa using i
  have F:decide ((120 :Int)<(a:Int)+1)=false:=by simpa using m
  have H:a<n:=I7
  obtain⟨g,M,rfl,Y,G,z,ae,af,B⟩:=E.out a H;have Z:g<l.heap.size:=by rw[k.out];omega
  have ag:l.cell? ⟨g,M+a,none⟩=some (.int .u8 z):=(d.out.cell I7 G).trans B;have I:0<=z % q:=Int.emod_nonneg _ I7;have J:z % q<q:=Int.emod_lt_of_pos _ p;have aa:(a:Int)<n:=I7
  clear B
  go_quiet (fail)
  go_wp2_with (fail)
  go_quiet (fail)
  go_wp2_with (fail);go_ret;exact⟨z % q,I,J,rfl,(d.out.drewN _).drewN _,f.out⟩
structure MkIn (b N:Nat) (v:Value) (a:Nat) (w:World):Prop where
 box:w.heap[b]? =some (mkO v (a:Int))
 bytes:BytesH N b w v
 le:N<=w.heap.size
section
variable {b N a a':Nat} {v:Value} {w w':World}
theorem MkIn.lt(h:MkIn b N v a w):b<w.heap.size:=zB h.box
theorem MkIn.step(c:MkIn b N v a w)(d:OffB b w.heap.size w w')(e:w'.heap[b]? =some (mkO v (a':Int))):MkIn b N v a' w':=⟨e,c.bytes.off (d.mono c.le),Nat.le_trans c.le d.size⟩
theorem MkIn.below(c:MkIn b N v a w)(d:Below w.heap.size w w'):MkIn b N v a w':=c.step (OffB.of_below d c.lt) ((d.block b c.lt).trans c.box)
theorem MkIn.alloc(h:MkIn b N v a w)(o:Obj):MkIn b N v a (w.alloc o):=h.below (Zb.alloc Zr o)
theorem MkIn.drew(h:MkIn b N v a w):MkIn b N v a w.drew:=h.below Zb.drew
end
def xK(S P b N:Nat)(v:Value)(a:Nat)(w:World)(e:Ending)(w':World):Prop:=
 ∃(s:ByteArray) (a':Nat),e=.returned (.string s)/\s.size<=S/\a<=a'/\a'<=a+P/\OffB b w.heap.size w w'/\MkIn b N v a' w'
theorem ke{b N a:Nat}{v:Value}{w:World}(c:MkIn b N v a w)(i:a<=1000000000){q:Int}(k:0<q)(l:q<=1000000):
 Calls Tryz.prog 76 #[.pointer (some ⟨b,0,none⟩),.int .i64 q] w fun e w'=>∃r:Int,0<=r/\r<q/\e=.returned (.int .i64 r)/\OffB b w.heap.size w w'/\MkIn b N v (a+1) w':=
 (pick_any b a N v q w c.box c.bytes c.le i k l).mono fun _ _ ⟨r,f,g,j,d,m⟩=>⟨r,f,g,j,d,c.step d m⟩
theorem jp(w:World)(L:List ByteArray)(n:Nat)(b:∀s∈L,s.size<=n)(T:TypeId){r:Int}(c:0<=r)(d:r<(L.length:Int)):
 ∃u:ByteArray,u.size<=n/\∀W:World,(W.alloc (.cells (L.map Value.string).toArray T)).cell? ⟨W.heap.size,r.toNat,none⟩=some (.string u):=by
 have a:r.toNat<L.length:=I7
 refine⟨L[r.toNat],b _ (List.getElem_mem a),fun W=>(Lib.cell_of_heap (heap_alloc_new W _) r.toNat).trans ?_⟩;rw[List.getElem?_toArray,List.getElem?_map,List.getElem?_eq_getElem a];rfl
def szD:Nat->Nat
 | 0=>12
 | d+1=>2*szD d+8
def pD:Nat->Nat
 | 0=>3
 | d+1=>2*pD d+2
theorem szD_ge(d:Nat):12<=szD d:=by induction d with|zero=>exact Nat.le_refl _|succ d a=>rw[szD];omega
theorem szD_gt(d:Nat):d<=szD d:=by induction d with|zero=>exact Nat.zero_le _|succ d a=>rw[szD];omega
theorem pD_ge(d:Nat):3<=pD d:=by induction d with|zero=>exact Nat.le_refl _|succ d a=>rw[pD];omega
def zAb(m:Nat):Prop:=szD m<=1000000->∀(b N a:Nat) (v:Value) (vs c:ByteArray) (D:Int) (w:World),D=(m:Int)->MkIn b N v a w->a+pD m<=1000000000->vs.size<=1->c.size<=1->
 Calls Tryz.prog 39 #[.pointer (some ⟨b,0,none⟩),.string vs,.string c,.int .i64 D] w (xK (szD m) (pD m) b N v a w)
def TruC(m:Nat):Prop:=szD m<=1000000->∀(b N a:Nat) (v:Value) (vs c:ByteArray) (D:Int) (w:World),D=(m:Int)->MkIn b N v a w->a+pD m<=1000000000->vs.size<=1->c.size<=1->
 Calls Tryz.prog 40 #[.pointer (some ⟨b,0,none⟩),.string vs,.string c,.int .i64 D] w (xK (szD m) (pD m) b N v a w)
theorem zAb.call{m:Nat}(d:zAb m)(e:szD m<=1000000){b N a:Nat}{v:Value}{vs c:ByteArray}{D:Int}{w:World}(f:D=(m:Int))(g:MkIn b N v a w)(i:a+pD m<=1000000000)(j:vs.size<=1)(k:c.size<=1):
 Calls Tryz.prog 39 #[.pointer (some ⟨b,0,none⟩),.string vs,.string c,.int .i64 D] w (xK (szD m) (pD m) b N v a w):=d e b N a v vs c D w f g i j k
theorem TruC.call{m:Nat}(d:TruC m)(e:szD m<=1000000){b N a:Nat}{v:Value}{vs c:ByteArray}{D:Int}{w:World}(f:D=(m:Int))(g:MkIn b N v a w)(i:a+pD m<=1000000000)(j:vs.size<=1)(k:c.size<=1):
 Calls Tryz.prog 40 #[.pointer (some ⟨b,0,none⟩),.string vs,.string c,.int .i64 D] w (xK (szD m) (pD m) b N v a w):=d e b N a v vs c D w f g i j k
end Go.Proofs.YthcmenajdcbnnaaGreatDoor
