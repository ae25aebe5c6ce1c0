import Derived.Test.YthcmenajdcbnnaaGreatDoorAnTokTokens
import Derived.Lib.ItoaLen
set_option linter.unusedSimpArgs false
set_option linter.unusedVariables false
set_option maxRecDepth 100000
set_option maxHeartbeats 99000000
namespace Go.Proofs.YthcmenajdcbnnaaGreatDoor
open Go.RowKit Tryz
theorem Qu{p:Prop}(h:p:=by
 go_roundw
 case rel=>
  refine⟨tk.length+1,O,by go_num,?_,?_⟩
  .rw[wB aA.o,af.o]
   exact N.o.app (L:=W1.heap.size) ah.o O (fun j E=>by have:=(B.o.own j E).1;omega) (Zb.alloc Zr _) M.o al.o ai.o
  .exact((z.o.trans (y.o.mono G)).alloc (by have:=y.o.size;omega) _).grown M.o (by have:=y.o.size;simp;omega) (fun j E=>(B.o.own j E).2)
 case measure=>simp[intOf];omega):p:=h
theorem Qv{p:Prop}(h:p:=by
 obtain⟨c,b⟩:=qS b;have f:=jb.1 c;have e:=b.1;refine qn c (iT ⟨?_,(D4 (w:=w) (i g e f)).trans b.2⟩ O);rw[qk]
 omega):p:=h
theorem Qw{p:Prop}(h:p:=by
 obtain⟨a,b,rfl,_⟩:=c.form
 exact⟨a,b,by rw[j,d];rfl,c,f⟩):p:=h
theorem Qx{p:Prop}(h:p:=by
 obtain⟨⟨⟨⟨f,g⟩,i⟩,j⟩,m⟩:=e
 exact⟨⟨⟨⟨f,V4 o q g⟩,i⟩,j⟩,m⟩):p:=h
theorem Qy{p:Prop}(h:p:=by
 go_enter func78,ntmps78;go_wp2_with fail;go_ret
 exact⟨rK (by rw[c.o]),Zb.alloc Zr _⟩):p:=h
variable{B a b n L:Nat}{w w' W:C3}{v0 v1 vi v:C4}{s:C2}{k:Int}{l:List Ex}{p:Pr}
def zb5:C2:=⟨#[105,110,116,32,109,97,105,110,40,41,32,123,32,112,114,105,110,116,40,54,32,42,32,55,41,59,32,114,101,116,117,114,110,32,49,32,47,32,48,59,32,125]⟩
def zb6:C2:=⟨#[105,110,116,32,102,40,105,110,116,32,110,41,32,123,32,105,102,32,40,110,32,60,32,50,41,32,123,32,114,101,116,117,114,110,32,49,59,32,125,32,114,101,116,117,114,110,32,110,32,42,32,102,40,110,32,45,32,49,41,59,32,125,32,105,110,116,32,109,97,105,110,40,41,32,123,32,114,101,116,117,114,110,32,102,40,114,101,97,100,40,41,41,59,32,125]⟩
def KN:Pr:=(yc zb5).1
def x5:Pr:=(yc zb6).1
theorem zdd:yc zb5=(KN,0,0):=by kernel_rfl
theorem zb7:yc zb6=(x5,0,0):=by kernel_rfl
theorem zed:vE KN [] 100=(2,0,[42],3,92):=by kernel_rfl
theorem zee:vE x5 [5] 20=(0,0,[],6,0):=by kernel_rfl
theorem zef:vE x5 [5] 200=(1,120,[],19,147):=by kernel_rfl
theorem zde:KN.wa.length=0/\KN.funcs.length=1:=⟨by kernel_rfl,by kernel_rfl⟩
theorem zdf:x5.wa.length=0/\x5.funcs.length=2:=⟨by kernel_rfl,by kernel_rfl⟩
theorem zeg(j:d6 B w)(g:B<=w.heap.size):Cy 13 #[.string ⟨#[105,110,116,32,109,97,105,110,40,41,32,123,32,112,114,105,110,116,40,54,32,42,32,55,41,59,32,114,101,116,117,114,110,32,49,32,47,32,48,59,32,125]⟩] w fun x w'=>∃a c b d,x=.returned (.tuple #[.agg #[.slice a 0 c,.slice b 1 d],(0:Int),(0:Int)])/\Cx w w'/\eT w'.heap.size KN (.slice a 0 c) (.slice b 1 d) w':=
 (v8 zb5 j g zdd).mono fun x w' ⟨a,c,b,d,e,i,f⟩=>by rw[zde.1,zde.2]at e f;exact⟨a,c,b,d,e,i,f⟩
theorem zeh(j:d6 B w)(g:B<=w.heap.size):Cy 13 #[.string ⟨#[105,110,116,32,102,40,105,110,116,32,110,41,32,123,32,105,102,32,40,110,32,60,32,50,41,32,123,32,114,101,116,117,114,110,32,49,59,32,125,32,114,101,116,117,114,110,32,110,32,42,32,102,40,110,32,45,32,49,41,59,32,125,32,105,110,116,32,109,97,105,110,40,41,32,123,32,114,101,116,117,114,110,32,102,40,114,101,97,100,40,41,41,59,32,125]⟩] w fun x w'=>∃a c b d,x=.returned (.tuple #[.agg #[.slice a 0 c,.slice b 2 d],(0:Int),(0:Int)])/\Cx w w'/\eT w'.heap.size x5 (.slice a 0 c) (.slice b 2 d) w':=
 (v8 zb6 j g zb7).mono fun x w' ⟨a,c,b,d,e,i,f⟩=>by rw[zdf.1,zdf.2]at e f;exact⟨a,c,b,d,e,i,f⟩
theorem zei(e:eT B KN v0 v1 w)(g:lQ B w vi [])(i:eJ []):Cy 17 #[.agg #[v0,v1],vi,(100:Int)] w fun x w'=>∃a b,x=.returned (.agg #[(2:Int),(0:Int),.slice a 1 b,(3:Int),(92:Int)])/\wJ w'.heap.size w' (.slice a 1 b) [42]/\Cx w w':=
 (hM B KN [] 100 v0 v1 vi w e (iR zdd) g i Up Up).mono fun x w' ⟨v,j,⟨_,d,c,_⟩,f⟩=>by
   rw[zed]at d c;exact Qw
theorem zej(e:eT B x5 v0 v1 w)(g:lQ B w vi [5])(i:eJ [5]):Cy 17 #[.agg #[v0,v1],vi,(200:Int)] w fun x w'=>∃a b,x=.returned (.agg #[(1:Int),(120:Int),.slice a 0 b,(19:Int),(147:Int)])/\wJ w'.heap.size w' (.slice a 0 b) []/\Cx w w':=
 (hM B x5 [5] 200 v0 v1 vi w e (iR zb7) g i Up Up).mono fun x w' ⟨v,j,⟨_,d,c,_⟩,f⟩=>by
   rw[zef]at d c;exact Qw
theorem zek(e:eT B x5 v0 v1 w)(g:lQ B w vi [5])(i:eJ [5]):Cy 17 #[.agg #[v0,v1],vi,(20:Int)] w fun x w'=>∃a b,x=.returned (.agg #[(0:Int),(0:Int),.slice a 0 b,(6:Int),(0:Int)])/\wJ w'.heap.size w' (.slice a 0 b) []/\Cx w w':=
 (hM B x5 [5] 20 v0 v1 vi w e (iR zb7) g i Up Up).mono fun x w' ⟨v,j,⟨_,d,c,_⟩,f⟩=>by
   rw[zee]at d c;exact Qw
theorem MH(B:Nat)(w:C3):lQ B w (.slice none 0 0) []:=⟨vL B w,fun _ n c e=>Kq⟩
theorem MI:eJ []:=fun n a=>Xb
theorem HN:eJ [5]:=fun n a=>by rw[List.mem_singleton.1 a];exact⟨Up,Up⟩
theorem HO(w:C3):lQ (w.heap.size+1) (w.alloc (.cells #[(5:Int)] 3)) (.slice (some ⟨w.heap.size,0,none⟩) 1 1) [5]:=
 ⟨B8 (l:=[5]) (T:=3) (fr:=(0,0)) (Dq w _) (Nat.lt_succ_self _) Up 1,fun _ n c e=>Kq⟩
theorem KO{a b d e:Int}:Cx w (w.alloc (L8 a b v d e))/\(w.alloc (L8 a b v d e)).heap[w.heap.size]?=some (L8 a b v d e)/\(w.alloc (L8 a b v d e)).heap.size=w.heap.size+1:=
 ⟨Zb.alloc Zr _,Dq w _,zA _ _⟩
theorem KP(B:Nat)(w:C3)(R:d6 B w)(P:B<=w.heap.size):Cy 15 #[] w (Cv true w):=by
 have K:=U R;clear R;go_enter func15,ntmps15
 go_upto_region 2 with(go_at_call 13;(with_reducible refine(zeg K.o P).mono ?_);rintro e F ⟨S,aG,T,aH,rfl,c,u⟩
                       obtain⟨g,j,k,x⟩:=u.box;have ae:=U x;have aD:=U j;have X:=U (c.trans (g.mono c.size));have aV:w.heap.size<=F.heap.size:=c.size;have z:=k
                       clear c u g j k x)
 generalize F.alloc (qW S 0 aG T 1 aH)=W1 at *;have aW:=Dt z;have aX:=Dt z.symm;clear z;obtain⟨⟨q,r⟩,s⟩:=zD aD.o;have aS:F.heap.size<W1.heap.size:=O
 go_upto_region 3 with(go_at_call 17;(with_reducible refine(zei ae.o (MH _ _) MI).mono ?_);rintro e w2 ⟨Ar,M,rfl,Q,c⟩
                       obtain⟨g,j,k⟩:=KO (w:=w2) (a:=2) (b:=0) (d:=3) (e:=92) (v:=.slice Ar 1 M);have aw:=U (Q.below g Zr);have ao:=U j;have aY:W1.heap.size<=w2.heap.size:=c.size;have I:=U ((X.o.trans (c.mono O)).trans (g.mono O));have A:=k
                       clear c Q g j k)
 generalize w2.alloc (L8 2 0 (.slice Ar 1 M) 3 92)=W2 at *;have aZ:=Dt A;have a0:=Dt A.symm;clear A q r s;have aC:=U (K.o.below (I.o.mono P))
 go_upto_region 4 with(go_at_call 13;(with_reducible refine(zeh aC.o O).mono ?_);rintro e l ⟨V,aI,W,aJ,rfl,c,u⟩
                       obtain⟨g,j,k,x⟩:=u.box;have af:=U x;have L:=U j;have aL:W2.heap.size<=l.heap.size:=c.size;have f:=c.trans (g.mono aL);have Y:=U (I.o.trans (f.mono O));have ax:=U (aw.o.below (f.mono O) Zr);have ap:=U ((f.block w2.heap.size O).trans ao.o);have C:=k
                       clear c u g j k x f)
 generalize l.alloc (qW V 0 aI W 2 aJ)=W3 at *;have a1:=Dt C;have a2:=Dt C.symm;clear C;obtain⟨⟨q,r⟩,s⟩:=zD L.o;have aT:l.heap.size<W3.heap.size:=O
 have m:Cx W3 (W3.alloc (.cells #[(5:Int)] 3)):=Zb.alloc Zr _;have ai:=U (HO W3);have J:=U ((af.o.below (m.mono O)).mono (show l.heap.size<=W3.heap.size+1 by omega) (by rw[zA];exact Dy _));have Z:=U (Y.o.trans (m.mono O));have aE:=U ((m.block l.heap.size O).trans L.o);have ay:=U (ax.o.below (m.mono O) Zr);have aq:=U ((m.block w2.heap.size O).trans ap.o);have aM:(W3.alloc (.cells #[(5:Int)] 3)).heap.size=W3.heap.size+1:=zA _ _;clear m
 go_upto_region 5 with(go_at_call 17;(with_reducible refine(zej J.o ai.o HN).mono ?_);rintro e p ⟨G,cs,rfl,_,c⟩
                       obtain⟨g,j,k⟩:=KO (w:=p) (a:=1) (b:=120) (d:=19) (e:=147) (v:=.slice G 0 cs);have a3:W3.heap.size+1<=p.heap.size:=Gd
                       have f:=c.trans (g.mono O);have aF:=U ((f.block l.heap.size O).trans aE.o);have az:=U (ay.o.below (f.mono O) Zr);have ar:=U ((f.block w2.heap.size O).trans aq.o);have al:=U j;have ag:=U (J.o.below (f.mono O));have aa:=U (Z.o.trans (f.mono O));have D:=k
                       clear c g j k f)
 generalize p.alloc (L8 1 120 (.slice G 0 cs) 19 147)=W5 at *;have a4:=Dt D;have a5:=Dt D.symm;clear D q r s aM;obtain⟨⟨q,r⟩,s⟩:=zD aF.o;have aU:l.heap.size<W5.heap.size:=O
 have n:Cx W5 (W5.alloc (.cells #[(5:Int)] 3)):=Zb.alloc Zr _;have aj:=U (HO W5);have ah:=U ((ag.o.below (n.mono O)).mono (show W3.heap.size+1<=W5.heap.size+1 by omega) (by rw[zA];exact Dy _));have ab:=U (aa.o.trans (n.mono O));have aA:=U (az.o.below (n.mono O) Zr);have au:=U ((n.block w2.heap.size O).trans ar.o);have am:=U ((n.block p.heap.size O).trans al.o);have a6:(W5.alloc (.cells #[(5:Int)] 3)).heap.size=W5.heap.size+1:=zA _ _;clear n
 go_upto_region 6 with(go_at_call 17;(with_reducible refine(zek ah.o aj.o HN).mono ?_);rintro e y ⟨H,N,rfl,_,c⟩
                       obtain⟨g,j,k⟩:=KO (w:=y) (a:=0) (b:=0) (d:=6) (e:=0) (v:=.slice H 0 N);have a7:W5.heap.size+1<=y.heap.size:=Gd
                       have f:=c.trans (g.mono O);have aB:=U (aA.o.below (f.mono O) Zr);have av:=U ((f.block w2.heap.size O).trans au.o);have an:=U ((f.block p.heap.size O).trans am.o);have ak:=U j;have ad:=U (ab.o.trans (f.mono O));have E:=k
                       clear c g j k f)
 generalize y.alloc (L8 0 0 (.slice H 0 N) 6 0)=W7 at *;have a8:=Dt E;have a9:=Dt E.symm;clear E q r s;obtain⟨⟨_,_,_,_,_⟩,_⟩:=zn av.o;obtain⟨⟨_,_,_,_,_⟩,_⟩:=zn an.o;obtain⟨⟨_,_,_,_,_⟩,_⟩:=zn ak.o;obtain⟨aK,or,rfl,_,aN⟩:=aB.o.cells (i:=0) (t:=42) rfl;rw[Nat.add_zero]at aN;have aR:w2.heap.size<W7.heap.size:=O
 have aQ:p.heap.size<W7.heap.size:=O
 have aP:y.heap.size<W7.heap.size:=O
 have aO:aK<W7.heap.size:=O
 go_wp2_with fail;go_ret;exact⟨rfl,ad.o⟩
theorem rK{a b:C2}(h:a=b):Ending.returned (.string a)=.returned (.string b):=by rw[h]
theorem HP(d:Nat)(_:d<10)(x:Int)(b:x=48+(d:Int))(w:C3):
 (convert 22 9 (.slice (some ⟨w.heap.size,0,none⟩) 1 1)).run Tryz.prog (w.alloc (.cells #[.int .u8 x] 5))=.ok (.string ⟨#[UInt8.ofNat (48+d)]⟩) (w.alloc (.cells #[.int .u8 x] 5)):=by
 refine run_convert_bytes_back (P:=Tryz.prog) _ 22 9 5 ⟨w.heap.size,0,none⟩ 1 [UInt8.ofNat (48+d)] underlying22 underlying5 underlying9 ?_;intro j a;simp at a;subst a
 have e:((UInt8.ofNat (48+d)).toNat:Int)=48+(d:Int):=by
  rw[UInt8.toNat_ofNat'];have:(48+d) % 2 ^ 8=48+d:=Nat.mod_eq_of_lt O;rw[this];omega
 simp[Addr.add,b];omega
theorem j6(n:Nat)(_:n<=9223372036854775807):(Lib.decDigits n).length<=20:=by
 rw[Lib.decDigits_length];exact Lib.nDigits_le20 n O
theorem KQ:∀(k:Nat) (z:Int) (w:C3),0<=z->z<=9223372036854775807->z.toNat<=k->
 Cy 78 #[(z:Int)] w (Cv (.string ⟨(Lib.decDigits z.toNat).toArray⟩) w):=by
 intro k
 induction k with
 |zero=>
   intro z w j l p;have f:=HP (z.toNat % 10) O (48+z % 10) O w;obtain⟨a,b⟩:∃a:UInt8,UInt8.ofNat (48+z.toNat % 10)=a:=⟨_,rfl⟩
   rw[b]at f;have d:=U b;clear b;have n:z<10:=O
   have c:Dk (Lib.decDigits z.toNat=[a]):=by unfold Dk;rw[<-d.o,Lib.decDigits,dif_pos O,Nat.mod_eq_of_lt O]
   exact Qy
 |succ k g=>
   intro z w j l p;have f:=HP (z.toNat % 10) O (48+z % 10) O w;obtain⟨a,b⟩:∃a:UInt8,UInt8.ofNat (48+z.toNat % 10)=a:=⟨_,rfl⟩
   rw[b]at f;have d:=U b;clear b;by_cases n:z<10
   .have c:Dk (Lib.decDigits z.toNat=[a]):=by unfold Dk;rw[<-d.o,Lib.decDigits,dif_pos O,Nat.mod_eq_of_lt O]
    clear g;exact Qy
   .have c:Dk (Lib.decDigits z.toNat=Lib.decDigits (z / 10).toNat++[a]):=by
     unfold Dk;rw[<-d.o,Lib.decDigits,dif_neg O];congr 2;omega
    have q:0<=z / 10:=O
    have r:z / 10<=9223372036854775807:=O
    have s:(z / 10).toNat<=k:=O
    have t:(⟨(Lib.decDigits (z / 10).toNat).toArray⟩:C2).size+(⟨#[a]⟩:C2).size<=21:=by
     have:=j6 (z / 10).toNat O;show(Lib.decDigits (z / 10).toNat).length+1<=21;omega
    have i:=U g;clear g;go_enter func78,ntmps78;go_wp2_with (go_at_call 78;(with_reducible refine(i.o (z / 10) _ q r s).mono ?_);rintro e _ ⟨rfl,m⟩);go_ret;refine⟨rK ?_,(Zb.alloc Zr _).trans (m.mono Ur)⟩;rw[c.o];apply ByteArray.ext;simp[ByteArray.data_append]
def RdQ(B:Nat)(w:C3)(q:C2×C2)(g o:Nat):Prop:=dZ B w g o (.string q.1)/\dZ B w g (o+1) (.string q.2)
def rL(B:Nat)(w:C3)(v:C4)(l:qb):Prop:=vR v l.length (uI 2 (RdQ B w) l)
theorem rL.imp{a:Nat}{l:qb}(e:rL B w v l)(b:∀g o d,dZ B w g o d->dZ a w' g o d):rL a w' v l:=vR.imp e fun g o=>uI.imp (fun _ _ _ c=>⟨b _ _ _ c.1,b _ _ _ c.2⟩) l g o
theorem rL.below{a:Nat}{l:qb}(b:rL B w v l)(d:Below B w w')(c:B<=a):rL a w' v l:=b.imp fun _ _ _ e=>e.below d c
theorem rL.form{l:qb}(c:rL B w v l):∃a b,v=.slice a l.length b/\l.length<=281474976710656:=by
 obtain⟨a,b,e,d,_⟩:=c;exact⟨a,b,e,d⟩
theorem rL.cells{a:Option Addr}{c:Nat}{l:qb}(d:rL B w (.slice a n c) l){i:Nat}{q:C2×C2}(b:l[i]?=some q):
 ∃(g o:Nat),a=some ⟨g,o,none⟩/\g<B/\w.cell? (g,o+i*2)=some (.string q.1)/\w.cell? (g,o+i*2+1)=some (.string q.2):=by
 obtain⟨g,o,e,f⟩:=vR.elem d rfl Kj;have:=uI.at l g o i q f b;exact⟨g,o,e,this.1.1,this.1.2,this.2.2⟩
def XM(l:qb)(s:C2)(k:Nat):Prop:=∀(i:Nat) x,k<=i->l[i]?=some x->x.1≠s
theorem oR{s:C2}:∀{l:qb},(∀(i:Nat) x,l[i]?=some x->x.1≠s)->yB l s=none
 |[],_=>rfl
 | y::r,h=>by
   rw[yB,oR (l:=r) fun i x a=>h (i+1) x Uy];exact Dl (h 0 y rfl)
theorem BR{s:C2}:∀{l:qb}{k:Nat}{x:C2×C2},XM l s (k+1)->l[k]?=some x->x.1=s->yB l s=some x.2
 |[],_,_,_,hk,_=>by simp at hk
 | y::r,0,x,h,hk,e=>by
   simp at hk;subst hk;rw[yB,oR (l:=r) fun i z a=>h (i+1) z O Uy];exact Dm e
 | y::r,k+1,x,h,hk,e=>by
   rw[yB,BR (l:=r) (k:=k) (fun i z _ a=>h (i+1) z O Uy) (by simpa using hk) e]
theorem XM.start(l:qb)(s:C2):XM l s l.length:=fun i x _ a=>Xl
theorem XM.step{l:qb}{k:Nat}{x:C2×C2}(b:XM l s (k+1))(d:l[k]?=some x)(e:x.1≠s):XM l s k:=fun i z _ a=>by
 by_cases c:i=k
 .subst c
  rw[d]at a;injection a with a;exact a▸e
 .exact b i z O a
theorem XM.none{l:qb}(a:XM l s 0):yB l s=Option.none:=oR fun i x b=>a i x (Dw _) b
theorem lM(B:Nat)(l:qb)(s t:C2)(n:o4 l s=t)(v:C4)(w:C3)(_:B<=w.heap.size)(d:rL B w v l):
 Cy 80 #[v,s] w (Cw t w):=by
 obtain⟨_,c,rfl,_⟩:=d.form;have p:=U d;have i:=U n;clear d n;go_enter func80,ntmps80;go_wp2_with fail
 go_loopw [5] (fun iv wr=>∃k:Nat,k<=l.length/\iv=.int .i64 ((k:Int)-1)/\XM l s k/\wr=w) (fun iv _=>(intOf iv+1).toNat)
 case atStart=>exact⟨l.length,Dy _,by go_num,XM.start _ _,rfl⟩
 case round=>
  obtain⟨k,_,rfl,m,rfl⟩:=hrel;have b:=U m;clear m;rcases k with _|k
  .go_wp2_with fail
   go_ret;exact⟨by rw[<-i.o];unfold o4;rw[b.o.none];rfl,rfl⟩
  .have e:((k+1 :Nat):Int)-1=(k:Int):=by omega
   rw[e];obtain⟨x,f⟩:∃e,l[k]?=some e:=⟨_,Dz O⟩
   obtain⟨g,o,rfl,_,_,_⟩:=p.o.cells f;have j:=U f;have r:g<wr.heap.size:=O
   clear f e;by_cases a:x.1=s
   .have q:=yC a
    go_wp2_with fail;go_ret;exact⟨by rw[<-i.o];unfold o4;rw[BR b.o j.o a];rfl,rfl⟩
   .have q:=yD a
    go_wp2_with fail;go_roundw
    case rel=>exact⟨k,O,by go_num,b.o.step j.o a,trivial⟩
    case measure=>simp[intOf]
abbrev f4(n:Int):Obj:=.cells #[(n:Int)] 96
theorem zb8(n:Nat):(⟨#[118]⟩:C2)++⟨(Lib.decDigits n).toArray⟩=vN n:=by
 apply ByteArray.ext;unfold vN;simp[ByteArray.data_append]
theorem zb9(n:Nat)(w:C3)(_:n<=9223372036854775807):Cy 78 #[(n:Int)] w (Cv (.string ⟨(Lib.decDigits n).toArray⟩) w):=by
 have:=KQ n (n:Int) w O O O;rwa [Int.toNat_natCast]at this
theorem BS(b n:Nat)(w:C3)(a:w.heap[b]?=some (f4 n))(_:n<=1000000000):
 Cy 44 #[(b,0)] w fun e w'=>e=.returned (.string (vN n))/\dX b w.heap.size w w'/\w'.heap[b]?=some (f4 ((n+1 :Nat):Int)):=by
 have c:b<w.heap.size:=zB a;have j:w.cell? (b,0)=some (.int .i64 n):=(Ds a 0).trans rfl;have k:∀o,w.frozen? ⟨b,o,none⟩=false:=fun o=>Vv
 have i:=U a
 have l:(⟨#[118]⟩:C2).size+(⟨(Lib.decDigits n).toArray⟩:C2).size<=21:=by
  have:=j6 n O;show 1+(Lib.decDigits n).length<=21;omega
 clear a;go_enter func44,ntmps44
 go_wp2_with (go_at_call 78;(with_reducible refine(zb9 n _ O).mono ?_);rintro e _ ⟨rfl,g⟩
              have f:=U g
              clear g)
 go_ret;have d:(w.setCell (b,0) (((n:Int)+1):Int)).heap.size=w.heap.size:=Uu
 refine⟨rK (zb8 n),?_,?_⟩
 .exact((dX.refl b w.heap.size w).setb c 0 _).trans (dX.wb (f.o.mono (by rw[d];exact Dy _)) (by rw[d];exact c))
 .exact(f.o.block b (by rw[d];exact c)).trans (D0 i.o _)
theorem HQ:∀(k a:Nat),1<=k->a<10 ^ k->(Lib.decDigits a).length<=k
 |0,a,h,_=>O
 | k+1,a,_,h=>by
   rw[Lib.decDigits];split
   .simp
   .rename_i d
    rw[Dn,D2]
    have c:1<=k:=by
     rcases Nat.eq_zero_or_pos k with rfl|b
     .simp at h;omega
     .exact b
    have:=HQ k (a / 10) c Hy;omega
theorem V2(_:n<=1000000000):uH (vN n)=true:=by
 have i:=HQ 10 n O O;have a:=JT n;unfold uH xC vN;have e:(118::Lib.decDigits n).toArray.toList=118::Lib.decDigits n:=Ur
 show((!(118::Lib.decDigits n).toArray.toList.isEmpty)&&decide ((118::Lib.decDigits n).toArray.toList.length<=20)&&ui ((118::Lib.decDigits n).toArray.toList.headD 0)&&(118::Lib.decDigits n).toArray.toList.all q9&&!xO (118::Lib.decDigits n).toArray.toList)=true;rw[e]
 have b:(118::Lib.decDigits n).all q9=true:=by
  rw[Ca,Dv];refine⟨Up,?_⟩;rw[Yv]at a ⊢;intro x g;unfold q9;rw[a x g,Bool.or_true]
 have c:xO (118::Lib.decDigits n)=false:=by
  unfold xO KX;simp
 rw[b,c];have d:(118::Lib.decDigits n).length<=20:=by rw[Dp];omega
 have f:ui ((118::Lib.decDigits n).headD 0)=true:=(by decide:ui 118=true)
 rw[f,decide_eq_true d];rfl
def q0(l:qb):Prop:=∀q∈l,uH q.2=true
theorem v9:∀{l:qb}{s t:C2},yB l s=some t->∃q∈l,q.1=s/\q.2=t
 |[],s,t,a=>by rw[yB]at a;cases a
 | x::r,s,t,a=>by
   rw[yB]at a;cases hr:yB r s with
   |some _=>
     rw[hr]at a;injection a with a;subst a;obtain⟨q,d,b,c⟩:=v9 hr;exact⟨q,Yz _ d,b,c⟩
   |none=>
     rw[hr]at a;by_cases e:x.1=s
     .rw[show(if x.1=s then some x.2 else Option.none)=some x.2 from Dm e]at a
      injection a with a;exact⟨x,Y4 ..,e,a⟩
     .rw[show(if x.1=s then some x.2 else Option.none)=Option.none from Dl e]at a;cases a
theorem V3{l:qb}(b:q0 l)(a:uH s=true):uH (o4 l s)=true:=by
 cases hf:yB l s with
 |none=>unfold o4;rw[hf];exact a
 |some t=>
   obtain⟨q,c,_,e⟩:=v9 hf;rw[gV hf,<-e];exact b q c
theorem q0.let{l:qb}(c:q0 l){td:C2}(d:kY k n<=1000000000):q0 (jV k td l n):=by
 unfold jV;by_cases b:k=1
 .rw[Dm b]
  unfold kY at d;rw[Dm b]at d;intro q a;rcases List.mem_append.1 a with a|a
  .exact c q a
  .obtain rfl:=List.mem_singleton.1 a
   exact V2 O
 .rw[Dl b];exact c
theorem V4{l:qb}(b:q0 l){td:C2}(c:kY k n<=1000000000)(a:uH td=true):uH (mE k td l n)=true:=by
 unfold mE;split
 .exact V3 (b.let c) a
 .exact a
mutual
theorem V5{l:qb}(b:q0 l):∀(e:Ex) (m:Nat),vA e m=true->vA (vK l e) m=true
 | .mk k op n td tc,m,he=>by
   rw[ju]at he;simp only[Dv]at he;obtain⟨⟨d,a⟩,f⟩:=he;rw[vK,ju,kN,oS b tc _ f,d,Bool.true_and,Bool.and_true];by_cases c:k=3
   .subst c
    unfold zk at a ⊢;simp at a ⊢;obtain⟨⟨⟨g,i⟩,j⟩,o⟩:=a;exact⟨⟨⟨V3 b g,i⟩,j⟩,o⟩
   .rw[Dl c];exact a
theorem oS{l:qb}(h:q0 l):∀(r:List Ex) (m:Nat),zr r m=true->zr (qO l r) m=true
 |[],m,he=>by rw[qO];exact he
 | e::r,m,he=>by
   rw[qr,Dv]at he;rw[qO,qr,V5 h e m he.1,oS h r m he.2];rfl
end
theorem QG(l:qb):∀r:List Ex,uN (qO l r)=uN r
 |[]=>by rw[qO]
 |.mk k op n td tc::r=>by rw[qO,vK];rfl
theorem QH{l:qb}(o:q0 l){r:Int}{td:C2}{c:Nat}{d:Bool}(q:kY k n<=1000000000)(e:zj k r td a b c d=true):zj k r (mE k td l n) a b c d=true:=by
 by_cases p:k=1\/k=2
 .rcases p with rfl|rfl
  .unfold zj at *
   simp only[if_true,Dv]at e ⊢;exact Qx
  .unfold zj at *
   rw[Dl Up,Dm rfl]at e ⊢;simp only[Dv]at e ⊢;exact Qx
 .unfold mE
  rw[Dl p];exact e
mutual
theorem V6:∀(s:St) (tj:qb) (n m:Nat),fG s m=true->q0 tj->(jc s tj n).2<=1000000000->fG (jc s tj n).1 m=true
 | .mk k ty td tc tg th,tj,n,m,hs,hN,hb=>by
   rw[jW]at hs;simp only[Dv]at hs;obtain⟨⟨⟨⟨e,f⟩,g⟩,i⟩,j⟩:=hs;rw[jc]at hb ⊢;have d:=yq tg (jV k td tj n) (kY k n);have a:=yq th (jV k td tj n) (zO tg (jV k td tj n) (kY k n)).2;have b:kY k n<=1000000000:=Dr d (Dr a hb);have c:=hN.let (td:=td) b;rw[jW];rw[show(if k=1\/k=2 then o4 (jV k td tj n) td else td)=mE k td tj n from rfl];rw[kN,xI,xI,QG,e,QH hN b f,oS hN tc _ g,iS tg _ _ _ i c (Dr a hb),iS th _ _ _ j c hb];rfl
theorem iS:∀(l:List St) (tj:qb) (n m:Nat),d3 l m=true->q0 tj->(zO l tj n).2<=1000000000->d3 (zO l tj n).1 m=true
 |[],tj,n,m,hs,hN,hb=>by rw[zO,uo]
 | .mk k ty td tc tg th::r,tj,n,m,hs,hN,hb=>by
   rw[ji,Dv]at hs;rw[zO]at hb ⊢;have a:=yq r (vy (.mk k ty td tc tg th) tj n) (jc (.mk k ty td tc tg th) tj n).2;have b:=rE (.mk k ty td tc tg th) tj n;have c:kY k n<=1000000000:=Dr b (Dr a hb);rw[ji,V6 _ _ _ _ hs.1 hN (Dr a hb),iS r (vy (.mk k ty td tc tg th) tj n) _ _ hs.2 (show q0 (jV k td tj n)from hN.let c) hb];rfl
end
mutual
theorem V7:∀(s:St) (tj:qb) (n:Nat),(jc s tj n).2<=n+uC s
 | .mk k ty td tc tg th,tj,n=>by
   have a:=vh tg (jV k td tj n) (kY k n);have b:=vh th (jV k td tj n) (zO tg (jV k td tj n) (kY k n)).2;have c:kY k n<=n+1:=by unfold kY;split<;>omega
   rw[jc,uC];show(zO th (jV k td tj n) (zO tg (jV k td tj n) (kY k n)).2).2<=_;omega
theorem vh:∀(l:List St) (tj:qb) (n:Nat),(zO l tj n).2<=n+d4 l
 |[],tj,n=>by rw[zO,d4];exact Dy _
 | s::r,tj,n=>by
   have a:=V7 s tj n;have b:=vh r (vy s tj n) (jc s tj n).2;rw[zO,d4];show(zO r (vy s tj n) (jc s tj n).2).2<=_;omega
end
theorem zae{l:List Pa}(_:l.length<=8):q0 (eL l 0):=fun q b=>by
 have:q.2∈(eL l 0).map (·.2):=List.mem_map.2 ⟨q,b,rfl⟩;rw[fO]at this;obtain⟨i,a,e⟩:=List.mem_map.1 this;have:=List.mem_range'.1 a;rw[<-e];exact V2 O
theorem V8{f:Fu}(c:xr f=true)(m:f.params.length+d4 f.body<=1000000000):xr (kq f)=true:=by
 unfold xr at *;simp only[Dv,decide_eq_true_eq]at c ⊢;obtain⟨⟨⟨⟨i,j⟩,d⟩,e⟩,k⟩:=c;refine⟨⟨⟨⟨i,j⟩,?_⟩,?_⟩,?_⟩
 .show(d8 f.params 0).length<=8
  rw[kt];exact d
 .show(d8 f.params 0).all vk=true
  rw[Yv]at e ⊢;intro x a
  have s:∀(l:List Pa) (n:Nat),n+l.length<=8->(∀b∈l,vk b=true)->∀x∈d8 l n,vk x=true:=by
   intro l
   induction l with
   |nil=>intro n _ _ x a;cases a
   |cons b r q=>
     intro n o g x a;rw[Dp]at o;rw[d8]at a;rcases List.mem_cons.1 a with rfl|a
     .have:=g b (Y4 ..)
      unfold vk at this ⊢;rw[Dv]at this;rw[V2 O,this.2];rfl
     .exact q (n+1) O (fun z p=>g z (Yz _ p)) x a
  exact s f.params 0 O e x a
 .exact iS f.body _ _ _ k (zae d) (Dr (vh f.body _ _) m)
theorem HR(a:eK p=true)(c:∀f∈p.funcs,f.params.length+d4 f.body<=1000000000):eK (qJ p)=true:=by
 unfold eK at *;rw[Dv]at a ⊢;refine⟨a.1,?_⟩;show(p.funcs.map kq).all xr=true;rw[List.all_map,Yv];intro f b;exact V8 (List.all_eq_true.1 a.2 f b) (c f b)
theorem HS(p:Pr):∀l:List Ar,yK (qJ p) l=yK p l
 |[]=>rfl
 | a::r=>by
   rw[yK,yK,HS p r];show(_ || (qN (p.funcs.map kq) a.name).isSome || _)=_;rw[gT]
theorem HT:∀l:List Fu,yV (l.map kq)=yV l
 |[]=>rfl
 | f::r=>by
   rw[Yb,yV,yV,HT r,gT];rfl
theorem QI(p:Pr):kd (qJ p)=kd p:=by
 unfold kd;rw[gU];cases jN p ⟨#[109,97,105,110]⟩with
 |none=>rfl
 |some f=>
   show(decide (f.type=1)&&decide ((d8 f.params 0).length=0))=_;rw[kt]
theorem BT:∀{l:List Fu}{i:Nat},(yo p l i).1=0->yo (qJ p) (l.map kq) i=(0,0,0)
 |[],i,_=>rfl
 | f::r,i,h=>by
   rw[yo]at h;by_cases a:(xt p f).1=0
   .rw[Dl Uy]at h
    rw[Yb,yo,SG a,Dl Uy];exact BT h
   .rw[Dm Uy]at h
    exact absurd h a
theorem HU(g:∀f∈p.funcs,f.params.length+d4 f.body<=1000000000)(a:(xy p).1=0):xy (qJ p)=(0,0,0):=by
 unfold xy at *;by_cases b:eK p=false
 .rw[Dm b]at a;exact absurd a Up
 rw[Dl b]at a;have d:eK p=true:=Uz
 rw[Dl (by rw[HR d g];decide)];by_cases c:(yK p p.wa || yV p.funcs || !kd p)=true
 .rw[Dm c]at a;exact absurd a Up
 rw[Dl c]at a
 have e:(yK (qJ p) (qJ p).wa || yV (qJ p).funcs || !kd (qJ p))=(yK p p.wa || yV p.funcs || !kd p):=by
  rw[QI];show(yK (qJ p) p.wa || yV (p.funcs.map kq) || _)=_;rw[HS,HT]
 rw[e,Dl c];exact BT a
def Idn(l:qb):Prop:=∀q∈l,q.1=q.2
theorem MJ{l:qb}(c:Idn l)(s:C2):o4 l s=s:=by
 cases hf:yB l s with
 |none=>unfold o4;rw[hf];rfl
 |some t=>
   obtain⟨q,d,a,b⟩:=v9 hf;rw[gV hf,<-a,<-b,c q d]
mutual
theorem V9{l:qb}(h:Idn l):∀e:Ex,vK l e=e
 |.mk k op n td tc=>by rw[vK,MJ h,ite_self,oT h tc]
theorem oT{l:qb}(h:Idn l):∀r:List Ex,qO l r=r
 |[]=>by rw[qO]
 |e::r=>by rw[qO,V9 h e,oT h r]
end
theorem HV{td:C2}{l tj:qb}(b:Idn l):Idn (jV k (mE k td tj n) l n):=by
 unfold jV;by_cases c:k=1
 .subst c
  rw[Dm rfl,mF];intro q a;rcases List.mem_append.1 a with a|a
  .exact b q a
  .obtain rfl:=List.mem_singleton.1 a
   rfl
 .rw[Dl c];exact b
mutual
theorem QJ:∀(s:St) (tj l:qb) (n:Nat),Idn l->jc (jc s tj n).1 l n=jc s tj n
 | .mk k ty td tc tg th,tj,l,n,h=>by
   have a:=HV (k:=k) (td:=td) (tj:=tj) (n:=n) h;rw[jc];rw[show(if k=1\/k=2 then o4 (jV k td tj n) td else td)=mE k td tj n from rfl];rw[jc,MJ a,ite_self,oT h,f5 tg _ _ _ a,f5 th _ _ _ a]
theorem f5:∀(r:List St) (tj l:qb) (n:Nat),Idn l->zO (zO r tj n).1 l n=zO r tj n
 |[],tj,l,n,h=>by rw[zO,zO]
 | .mk k ty td tc tg th::r,tj,l,n,h=>by
   have a:=HV (k:=k) (td:=td) (tj:=tj) (n:=n) h;have e:vy (jc (.mk k ty td tc tg th) tj n).1 l n=jV k (mE k td tj n) l n:=by rw[jc];rfl
   rw[zO,zO,QJ _ _ _ _ h,e,f5 r _ _ _ a]
end
theorem wA:∀(l:List Pa) (n:Nat),d8 (d8 l n) n=d8 l n
 |[],_=>rfl
 |x::r,n=>by rw[d8,d8,wA r]
theorem HW:∀(l:List Pa) (n:Nat),Idn (eL (d8 l n) n)
 |[],_,q,a=>Xb
 | x::r,n,q,a=>by
   rw[d8,eL]at a;rcases List.mem_cons.1 a with rfl|a
   .rfl
   .exact HW r (n+1) q a
theorem QK(f:Fu):kq (kq f)=kq f:=by
 unfold kq;dsimp only;rw[wA,kt,f5 _ _ _ _ (HW f.params 0)]
theorem KR(p:Pr):qJ (qJ p)=qJ p:=by
 unfold qJ;dsimp only;rw[List.map_map];congr 1;exact List.map_congr_left fun f _=>QK f
mutual
def WB:St->List C2
 |.mk k _ td _ tg th=>(if k=1 then[td]else[])++hP tg++hP th
def hP:List St->List C2
 |[]=>[]
 |s::r=>WB s++hP r
end
theorem fD(n d e:Nat):(List.range' n d).map vN++(List.range' (n+d) e).map vN=(List.range' n (d+e)).map vN:=by
 rw[<-Yf,List.range'_append_1]
mutual
theorem QL:∀(s:St) (tj:qb) (n:Nat),∃d,(jc s tj n).2=n+d/\WB (jc s tj n).1=(List.range' n d).map vN
 | .mk k ty td tc tg th,tj,n=>by
   obtain⟨a,b,i⟩:=f6 tg (jV k td tj n) (kY k n);obtain⟨f,g,j⟩:=f6 th (jV k td tj n) (zO tg (jV k td tj n) (kY k n)).2;rw[jc,WB];rw[show(if k=1\/k=2 then o4 (jV k td tj n) td else td)=mE k td tj n from rfl];by_cases c:k=1
   .subst c
    refine⟨1+a+f,?_,?_⟩
    .show(zO th _ _).2=_
     rw[g,b];unfold kY;rw[Dm rfl];omega
    .rw[Dm rfl,mF,i,j,b]
     have e:kY 1 n=n+1:=by unfold kY;rw[Dm rfl]
     rw[e];rw[show[vN n]=(List.range' n 1).map vN from rfl,fD,show n+1+a=n+(1+a)by omega,fD]
   .refine⟨a+f,?_,?_⟩
    .show(zO th _ _).2=_
     rw[g,b];unfold kY;rw[Dl c];omega
    .have e:kY k n=n:=by unfold kY;rw[Dl c]
     rw[Dl c,Yy,i,j,b,e,fD]
theorem f6:∀(l:List St) (tj:qb) (n:Nat),∃d,(zO l tj n).2=n+d/\hP (zO l tj n).1=(List.range' n d).map vN
 |[],tj,n=>⟨0,by rw[zO];rfl,by rw[zO,hP];rfl⟩
 | s::r,tj,n=>by
   obtain⟨b,a,f⟩:=QL s tj n;obtain⟨c,e,g⟩:=f6 r (vy s tj n) (jc s tj n).2;refine⟨b+c,?_,?_⟩
   .rw[zO]
    show(zO r _ _).2=_;rw[e,a];omega
   .rw[zO,hP,f,g,a,fD]
end
def zca(f:Fu):List C2:=f.params.map (·.name)++hP f.body
theorem WC(f:Fu):(zca (kq f)).Nodup:=by
 obtain⟨d,e,g⟩:=f6 f.body (eL f.params 0) f.params.length
 have h:zca (kq f)=(List.range' 0 (f.params.length+d)).map vN:=by
  show(d8 f.params 0).map (·.name)++hP (zO f.body (eL f.params 0) f.params.length).1=_;rw[g0,g];have:=fD 0 f.params.length d;rw[Yo]at this;exact this
 rw[h];exact sH _ _
theorem oU(a:qb):∀l:List Ex,qO a l=l.map (vK a)
 |[]=>by rw[qO];rfl
 |e::r=>by rw[qO,oU a r];rfl
theorem wB{a:qb}{i:Nat}{e:Ex}(b:l[i]?=some e):qO a (l.take (i+1))=qO a (l.take i)++[vK a e]:=by
 rw[oU,oU,Yr,b];simp
theorem QM{op n:Int}{b:Nat}(a:zk k op n s b=true):b<=8:=by
 unfold zk at a
 repeat' split at a
 all_goals(simp at a;try omega)
def HX(m:Nat):Prop:=∀(l:List Ex) (a:qb) (b c:C4) (w:C3),zr l m=true->l.length<=8->xA w.heap.size w b l->rL w.heap.size w c a->
 Cy 79 #[b,c] w fun e w'=>∃v,e=.returned v/\jL w.heap.size w' (qO a l) v/\Cx w w'
theorem HX.call{m:Nat}(d:HX m){a:qb}{b c:C4}(f:zr l m=true)(g:l.length<=8)(i:xA w.heap.size w b l)(j:rL w.heap.size w c a):
 Cy 79 #[b,c] w fun e w'=>∃v,e=.returned v/\jL w.heap.size w' (qO a l) v/\Cx w w':=d l a b c w f g i j
theorem HY(m:Nat)(aO:∀m',m'+1=m->HX m'):HX m:=by
 intro l a _ _ w aK _ ar av;obtain⟨_,c,rfl,_⟩:=ar.form;obtain⟨ad,ao,rfl,_⟩:=av.form;obtain⟨aN,aJ,aM,Z,aa⟩:=info_parts K5;have v:=U (Do aJ (Do aM (Do Z aa)));have aC:=U ar;have aj:=U av;have aQ:=U aK;have aB:=U aO;clear ar av aK aO aJ aM Z aa;go_enter func79,ntmps79;go_wp2_with fail
 go_loopw [5,6] (fun bl iv wr=>∃i:Nat,i<=l.length/\iv=.int .i64 i/\uJ w.heap.size wr bl (qO a (l.take i))/\Cx w wr) (fun _ iv _=>l.length-(intOf iv).toNat)
 case atStart=>exact⟨0,Dw _,rfl,by rw[Yu,qO];exact uJ.nil _ _,D1 _ _⟩
 case round=>
  obtain⟨i,_,rfl,X,aq⟩:=hrel;have G:w.heap.size<=wr.heap.size:=aq.size;obtain⟨tk,Y⟩:=Cz (qO a (l.take i));have bd:tk.length=i:=by rw[<-Y,kN,Yc];omega
  rw[Y]at X;subst bd;obtain⟨ab,an,rfl⟩:=X.form;have B:=U X;have z:=U aq;have af:=U Y;clear X aq Y;by_cases bh:tk.length<l.length
  .obtain⟨⟨k,op,n,s,tc⟩,P⟩:∃e,l[tk.length]?=some e:=⟨_,Dz bh⟩
   obtain⟨g,o,_,rfl,_,_,_,_,_,q4,aw⟩:=(aC.o.below z.o Zr).cells P;have aL:=aC.o.range P;obtain⟨f,q,rfl,_⟩:=aw.form;have bo:g<wr.heap.size:=O
   have au:=jK aQ.o P;rw[ju]at au;simp only[Dv,decide_eq_true_eq]at au;obtain⟨⟨_,aI⟩,aH⟩:=au;obtain⟨m',rfl⟩:∃m',m=m'+1:=⟨m-1,O⟩
   have aG:=QM aI;have ay:=C0 (zr tc m'=true) aH;have aA:=U P;have aF:=U aw;have aE:=U aL;clear P aw aL aH aI;obtain⟨r,K⟩:=Cz ((if k=3 then o4 a s else s));have aD:=U (show vK a (.mk k op n s tc)=.mk k op n r (qO a tc)by rw[vK,K]);have ax:(wr.alloc (.cells #[(k:Int),(op:Int),(n:Int),s,(f,tc.length,q)] 147)).heap[wr.heap.size]?=some (.cells #[(k:Int),(op:Int),(n:Int),s,(f,tc.length,q)] 147):=Dq wr _;have ap:Cx wr (wr.alloc (.cells #[(k:Int),(op:Int),(n:Int),s,(f,tc.length,q)] 147)):=Zb.alloc Zr _;have bk:(wr.alloc (.cells #[(k:Int),(op:Int),(n:Int),s,(f,tc.length,q)] 147)).heap.size=wr.heap.size+1:=zA _ _;have aR:=C0 (rL (wr.alloc (.cells #[(k:Int),(op:Int),(n:Int),s,(f,tc.length,q)] 147)).heap.size (wr.alloc (.cells #[(k:Int),(op:Int),(n:Int),s,(f,tc.length,q)] 147)) (.slice ad a.length ao) a) (aj.o.below (z.o.trans (ap.mono G)) O);obtain⟨⟨_,_,_,_,_⟩,_⟩:=zn ax;have aU:=U ax;have aP:=U ap;clear ax ap;by_cases J:k=3
   case pos=>
    have bf:(k == 3)=true:=by simp[J]
    rw[Dm J]at K;have aT:=U K;clear K J;have H:(wr.alloc (.cells #[(k:Int),(op:Int),(n:Int),r,(f,tc.length,q)] 147)).heap[wr.heap.size]?=some (.cells #[(k:Int),(op:Int),(n:Int),r,(f,tc.length,q)] 147):=Dq wr _;have u:Cx wr (wr.alloc (.cells #[(k:Int),(op:Int),(n:Int),r,(f,tc.length,q)] 147)):=Zb.alloc Zr _;have Z:(wr.alloc (.cells #[(k:Int),(op:Int),(n:Int),r,(f,tc.length,q)] 147)).heap.size=wr.heap.size+1:=zA _ _;go_upto_region 8 with(go_at_call 80;(with_reducible refine(lM _ a s r aT.o _ _ Zr aR.o).mono ?_);rintro x w2 ⟨rfl,rfl⟩);generalize wr.alloc (.cells #[(k:Int),(op:Int),(n:Int),r,(f,tc.length,q)] 147)=W1 at *;obtain⟨⟨aV,aW,aX,aY,aZ⟩,a5⟩:=zn H;have am:=U H;have ag:=U u;have ae:=C0 (xA W1.heap.size W1 (.slice f tc.length q) tc) (aF.o.below (u.mono G) O);have ak:=C0 (rL W1.heap.size W1 (.slice ad a.length ao) a) (aj.o.below (z.o.trans (u.mono G)) O);clear H u
    go_wp2_with (first
     | (go_at_call 79
        (with_reducible refine(HX.call (aB.o m' rfl) ay.o aG ae.o ak.o).mono ?_)
        rintro x w2 ⟨bm,rfl,hF,t⟩;obtain⟨b,d,rfl,_⟩:=hF.form;rw[kN]at hF;simp only[kN];have aa:W1.heap.size<=w2.heap.size:=t.size;have I:=(t.block wr.heap.size O).trans am.o;obtain⟨⟨a6,a7,a8,a9,ba⟩,bb⟩:=zn I;have bi:wr.heap.size<w2.heap.size:=O
        have W:(w2.setCell (wr.heap.size,4) (b,tc.length,d)).heap.size=w2.heap.size:=Uu
        have D:Cx wr (w2.setCell (wr.heap.size,4) (b,tc.length,d)):=(ag.o.trans (t.mono O)).setCell (p:=(wr.heap.size,4)) Zr _;have N:=U (B.o.keep (zK.wb (L:=w.heap.size) D));obtain⟨S,F,T⟩:=lX N.o (.int .i64 k) (.int .i64 op) (.int .i64 n) (.string r) (.slice b tc.length d) (by rw[W];omega);rw[W]at F;have C:=U (Do S (Do F T))
        have ah:=U (show ky W1.heap.size (w2.setCell (wr.heap.size,4) (b,tc.length,d)) (vK a (.mk k op n s tc)) (.agg #[(k:Int),(op:Int),(n:Int),r,(b,tc.length,d)])from by
         rw[aD.o]
         exact⟨_,rfl,aE.o,jL.keep hF (zK.set O 4 _) Zr⟩)
        have y:=U D;have bj:=D0 (i:=4) I (.slice b tc.length d)
        clear hF t D S F T I)
     | (at_builtin;refine zy rfl (.tmp 31) (.tmp 33) _ rfl w.heap.size 147 aN _ 5 64 underlying137 v.o.1 v.o.2.1 v.o.2.2.1 v.o.2.2.2 rfl O (.slice ab tk.length an) tk.length _ rfl (by exact C.o.1) ⟨w2.heap.size,0,none⟩ 1 1 [.int .i64 k,.int .i64 op,.int .i64 n,.string r,.slice b tc.length d] rfl rfl (by exact C.o.2.1) Uw Uv O (by exact C.o.2.2) O ?_
        intro v1 bn R Q V;have ai:=U R;have M:=U Q;have al:=U V
        clear R Q V))
    exact Qu
   case neg=>
    have bf:(k == 3)=false:=by simp[J]
    rw[Dl J]at K;subst K;clear J;have H:=aU.o;have u:=aP.o;have Z:=bk;go_upto_region 8 with fail;generalize(wr.alloc (.cells #[(k:Int),(op:Int),(n:Int),s,(f,tc.length,q)] 147))=W1 at *;obtain⟨⟨aV,aW,aX,aY,aZ⟩,a5⟩:=zn H;have am:=U H;have ag:=U u;have ae:=C0 (xA W1.heap.size W1 (.slice f tc.length q) tc) (aF.o.below (u.mono G) O);have ak:=C0 (rL W1.heap.size W1 (.slice ad a.length ao) a) (aj.o.below (z.o.trans (u.mono G)) O);clear H u
    go_wp2_with (first
     | (go_at_call 79
        (with_reducible refine(HX.call (aB.o m' rfl) ay.o aG ae.o ak.o).mono ?_)
        rintro x w2 ⟨bm,rfl,hF,t⟩;obtain⟨b,d,rfl,_⟩:=hF.form;rw[kN]at hF;simp only[kN];have aa:W1.heap.size<=w2.heap.size:=t.size;have I:=(t.block wr.heap.size O).trans am.o;obtain⟨⟨a6,a7,a8,a9,ba⟩,bb⟩:=zn I;have bi:wr.heap.size<w2.heap.size:=O
        have W:(w2.setCell (wr.heap.size,4) (b,tc.length,d)).heap.size=w2.heap.size:=Uu
        have D:Cx wr (w2.setCell (wr.heap.size,4) (b,tc.length,d)):=(ag.o.trans (t.mono O)).setCell (p:=(wr.heap.size,4)) Zr _;have N:=U (B.o.keep (zK.wb (L:=w.heap.size) D));obtain⟨S,F,T⟩:=lX N.o (.int .i64 k) (.int .i64 op) (.int .i64 n) (.string s) (.slice b tc.length d) (by rw[W];omega);rw[W]at F;have C:=U (Do S (Do F T))
        have ah:=U (show ky W1.heap.size (w2.setCell (wr.heap.size,4) (b,tc.length,d)) (vK a (.mk k op n s tc)) (.agg #[(k:Int),(op:Int),(n:Int),s,(b,tc.length,d)])from by
         rw[aD.o]
         exact⟨_,rfl,aE.o,jL.keep hF (zK.set O 4 _) Zr⟩)
        have y:=U D;have bj:=D0 (i:=4) I (.slice b tc.length d)
        clear hF t D S F T I)
     | (at_builtin;refine zy rfl (.tmp 31) (.tmp 33) _ rfl w.heap.size 147 aN _ 5 64 underlying137 v.o.1 v.o.2.1 v.o.2.2.1 v.o.2.2.2 rfl O (.slice ab tk.length an) tk.length _ rfl (by exact C.o.1) ⟨w2.heap.size,0,none⟩ 1 1 [.int .i64 k,.int .i64 op,.int .i64 n,.string s,.slice b tc.length d] rfl rfl (by exact C.o.2.1) Uw Uv O (by exact C.o.2.2) O ?_
        intro v1 bn R Q V;have ai:=U R;have M:=U Q;have al:=U V
        clear R Q V))
    exact Qu
  .have be:tk.length=l.length:=by omega
   have bg:tk.length<=281474976710656:=O
   have aS:=U (show jL w.heap.size wr (qO a l) (.slice ab tk.length an)from by
    have bc:tk=qO a l:=by rw[<-af.o,be,Y9]
    rw[<-bc]
    exact B.o.read bg)
   go_wp2_with fail;go_ret;exact⟨_,rfl,aS.o,z.o⟩
theorem zaf:∀m,HX m:=fun m=>by
 induction m with
 |zero=>exact HY 0 fun m' a=>absurd a O
 |succ m b=>exact HY (m+1) fun m' a=>(show m=m' by omega)▸b
theorem dZ.nehole{g o:Nat}{f:C4}(d:dZ B (eG a w) g o f):g≠a:=fun e=>by
 subst e;have b:=d.2;unfold World.cell? at b;rw[show(eG g w).heap[(⟨g,o,none⟩:Addr).block]?=(eG g w).heap[g]? from rfl,nJ]at b;by_cases c:g<w.heap.size
 .rw[Dm c]at b;simp at b
 .rw[Dl c]at b;simp at b
theorem iT{g o:Nat}{c:C4}(b:dZ B w g o c)(d:g≠a):dZ B (eG a w) g o c:=⟨b.1,(D4 (w:=w) (w':=eG a w) (kx w d)).trans b.2⟩
theorem eU.shift{a':Nat}{tk:List St}(f:eU B (eG a w) v tk)(_:w.heap.size<=w'.heap.size)(l:∀k,k<w.heap.size->B<=k->k≠a->w'.heap[k]?=w.heap[k]?)(_:a'=a\/w.heap.size<=a'\/a'<B)(z:∀k,v.ownBlock=some k->k≠a):eU B (eG a' w') v tk:=by
 have n:=f.own;rw[qk]at n;have m:∀k,k<w.heap.size->B<=k->k≠a->k≠a':=fun k c d b=>O
 obtain⟨ps,s,x,y⟩:=f;refine⟨ps,s,zZ x fun j i=>?_,fun p t=>FL (fun g o _ e=>?_) (y p t)⟩
 .obtain⟨c,d⟩:=n j i
  have b:=z j i;rw[kx w' (m j c d b),kx w b];exact l j c d b
 .obtain⟨q,e⟩:=qS e
  have b:=e.nehole;have r:=dZ.wm e;have c:g<w.heap.size:=by have:=e.1;rwa [qk]at this
  have d:=(qd.1 q).1;refine qn q (iT ⟨?_,(D4 (w:=w) (l g c d b)).trans r.2⟩ (m g c d b));rw[qk];omega
theorem jL.hole(d:jL L w l v)(_:w.heap.size<=w'.heap.size)(i:∀k,k<w.heap.size->L<=k->w'.heap[k]?=w.heap[k]?)(_:a<L\/w.heap.size<=a):jL L (_root_.Go.Proofs.YthcmenajdcbnnaaGreatDoor.eG a w') l v:=by
 refine xA.imp (fun g o _ b=>?_) d;exact Qv
theorem kD.hole{l:List St}(d:kD L w l v)(_:w.heap.size<=w'.heap.size)(i:∀k,k<w.heap.size->L<=k->w'.heap[k]?=w.heap[k]?)(_:a<L\/w.heap.size<=a):kD L (_root_.Go.Proofs.YthcmenajdcbnnaaGreatDoor.eG a w') l v:=by
 refine eN.imp (fun g o _ b=>?_) d;exact Qv
theorem kD.wm{l:List St}(d:kD L (_root_.Go.Proofs.YthcmenajdcbnnaaGreatDoor.eG a w) l v):kD L w l v:=by
 refine eN.imp (fun g o _ b=>?_) d;obtain⟨e,b⟩:=qS b;have c:=b.1;rw[qk]at c;exact qn e ⟨c,(dZ.wm b).2⟩
theorem WD{tk:List St}(m:eU B (eG a w) v tk)(u:∀k,v.ownBlock=some k->k≠a)(b c d g i l:C4)(_:B<=w.heap.size):
 (w.alloc (.cells #[b,c,d,g,i,l] 139)).ownsRow B 139 6 v tk.length (k9 (Classical.choose m))/\
 (∀j n,[b,c,d,g,i,l][j]?=some n->(w.alloc (.cells #[b,c,d,g,i,l] 139)).cell? ((⟨w.heap.size,0,none⟩:Addr).add j)=some n)/\B<=(w.alloc (.cells #[b,c,d,g,i,l] 139)).heap.size:=by
 obtain⟨r,o,_⟩:=Co m;refine⟨?_,fun j n t=>?_,Ut⟩
 .have e:(Classical.choose m).length=tk.length:=by rw[<-Yd (f:=(·.s)),r]
  rw[e]at o;have p:w.ownsRow B 139 6 v tk.length (k9 (Classical.choose m)):=zZ o fun k q=>(kx w (u k q)).symm
  exact qD p ((D1 w.heap.size w).alloc Zr _) Zr
 .rw[show(⟨w.heap.size,0,none⟩:Addr).add j=⟨w.heap.size,j,none⟩by unfold Addr.add;split<;>simp_all]
  exact(cell_of_row _ w.heap.size j _ _ (0,0) (Dq w _)).trans (by simpa using t)
theorem KS{d:Option Nat}(b:W.grownBy w' d)(f:a<W.heap.size):(eG a W).grownBy (eG a w') d:=by
 refine⟨b.os,b.tape,b.output,by rw[qk,qk];exact b.size,fun k c g=>?_⟩;rw[qk]at c;by_cases e:k=a
 .subst e
  have:=b.size;rw[nJ,nJ,Dm f,Dm O]
 .rw[kx w' e,kx W e]
  exact b.block k c g
theorem eU.apph{W w':C3}{v':C4}{tk:List St}{e:St}{t:Int}{o p q:C4}(d:eU B (eG a w) v tk)(y:e6 L (eG a w) e (.agg #[(k:Int),(t:Int),s,o,p,q]))(r:B<=L)(u:∀k,v.ownBlock=some k->k<L)
 (D:∀k,v.ownBlock=some k->k≠a) (l:a<w.heap.size) (i:Cx w W) (z:W.grownBy w' v.ownBlock) (n:kn W v v') (C:w'.ownsRow B 139 6 v' (tk.length+1) ((k9 (Classical.choose d))++[.int .i64 k,.int .i64 t,.string s,o,p,q])):
 eU B (eG a w') v' (tk++[e])/\∀k,v'.ownBlock=some k->k≠a:=by
 have x:a<W.heap.size:=D6 l i.size
 have m:∀k,v'.ownBlock=some k->k≠a:=fun k c=>by
  rcases n with b|⟨g,b,f⟩
  .exact D k (b▸c)
  .rw[b]at c
   injection c with c;omega
 refine⟨d.app (W:=eG a W) y r u ?_ (KS z x) ?_ (zZ C fun j A=>kx w' (m j A)),m⟩
 .show Below (eG a w).heap.size _ _;rw[qk]
  exact dX.wb i l
 .rcases n with b|⟨g,b,f⟩
  .exact .inl b
  .exact .inr ⟨g,b,by rw[qk];exact f⟩
def kQ:FO (C2×C2) where
 T:=102
 n:=2
 cs q:=[.string q.1,.string q.2]
 inn _ _ _:=True
 len _:=rfl
 mono _ _ h:=h
theorem fE{base:Nat}{l:qb}(f:w.ownsRow base 102 2 v l.length (l.flatMap kQ.cs))(_:b<base)(k:l.length<=281474976710656):rL w.heap.size (eG b w) v l:=by
 have i:eC kQ base w v l:=⟨f,fun _ _=>trivial⟩
 have e:=i.read (fun p=>p) (F:=fun d W a g o=>RdQ d W a g o) (fun d W p g o c _=>⟨c 0 _ rfl,c 1 _ rfl⟩) k;rw[List.map_id']at e;have j:rL w.heap.size (eE (i3 base) w) v l:=e;refine j.imp fun g o _ c=>?_
 obtain⟨m,c⟩:=qS c;exact iT c (by have:=jb.1 m;omega)
theorem HZ:∀(l:qb) (g o:Nat),uI 2 (RdQ B w) l g o->∀j u,(l.flatMap kQ.cs)[j]?=some u->w.cell? ⟨g,o+j,none⟩=some u
 |[],_,_,_,j,u,h=>Xs
 | x::r,g,o,hr,j,u,h=>by
   rw[Y2]at h
   match j with
   |0=>simp[kQ]at h;subst h;exact hr.1.1.2
   |1=>simp[kQ]at h;subst h;exact hr.1.2.2
   |j+2=>
     have:=HZ r g (o+2) hr.2 j u (by simpa[kQ]using h);rw[show o+(j+2)=o+2+j by omega];exact this
theorem zcb(l:qb):∀b∈l.flatMap kQ.cs,b.oneCell'=true:=fun b c=>by
 obtain⟨x,_,a⟩:=List.mem_flatMap.1 c;simp[kQ]at a;rcases a with rfl|rfl<;>rfl
theorem zcc(l:qb):(l.flatMap kQ.cs).length=l.length*2:=by
 induction l with
 |nil=>rfl
 |cons x r a=>rw[Y2,Dn,a,Dp];show 2+_=_;omega
theorem zag(l:qb)(s t:C2):(l++[(s,t)]).flatMap kQ.cs=l.flatMap kQ.cs++[.string s,.string t]:=by
 rw[Cq];rfl
theorem MK:(Tryz.prog.info? 102).map (fun i=>(i.zero,i.size,i.bytes))=some (some (.agg #[.string ⟨#[]⟩,.string ⟨#[]⟩]),2,32):=by kernel_rfl
abbrev ML(k a:Int)(s:C2)(b c d:C4):Obj:=.cells #[(k:Int),(a:Int),s,b,c,d] 139
structure KT (b:Nat) (w:C3) (ov av:C4) (done:List St) (all:qb) (nj a:Nat) (W:C3):Prop where
 o:eU w.heap.size (eG a W) ov done
 ne:∀k,ov.ownBlock=some k->k≠a
 row:W.ownsRow w.heap.size 102 2 av all.length (all.flatMap kQ.cs)
 own:av.ownBlock=some a\/av.ownBlock=none/\a=b
 off:dX b w.heap.size w W
 st:W.heap[b]?=some (f4 nj)
 hb:b<w.heap.size
theorem KT.ha{f av:C4}{e:List St}{tj:qb}{nj:Nat}(d:KT b w f av e tj nj a W):a=b\/w.heap.size<=a/\a<W.heap.size:=by
 rcases d.own with c|⟨_,c⟩
 .have:=zo d.row a c
  exact .inr ⟨this.2,this.1⟩
 .exact .inl c
structure eR (b m a:Nat) (wr w2 w:C3) (av:C4) (all:qb) (nj a':Nat) (bx:Obj) (W:C3):Prop where
 ka:∀k,k<wr.heap.size->k≠a->k≠b->W.heap[k]?=wr.heap[k]?
 k2:∀k,k<w2.heap.size->m+1<=k->W.heap[k]?=w2.heap[k]?
 sz:w2.heap.size<=W.heap.size
 row:W.ownsRow w.heap.size 102 2 av all.length (all.flatMap kQ.cs)
 own:av.ownBlock=some a'\/av.ownBlock=none/\a'=b
 ha:a'=a\/w2.heap.size<=a'
 off:dX b w.heap.size w W
 st:W.heap[b]?=some (f4 nj)
 box:W.heap[m]?=some bx
 hb:b<w.heap.size
 hm:m=wr.heap.size
 hm2:m<w2.heap.size
 hw:w.heap.size<=wr.heap.size
 ha0:a=b\/w.heap.size<=a/\a<wr.heap.size
section
variable {b m a:Nat}{wr w2 w:C3}{av:C4}{tj:qb} {nj a':Nat}{bx:Obj} {W W':C3}
theorem eR.am(c:eR b m a wr w2 w av tj nj a' bx W):a'≠m:=by
 have d:=c.ha;have e:=c.ha0;have f:=c.hm;have g:=c.hm2;have i:=c.hb;have j:=c.hw;omega
theorem eR.bm(h:eR b m a wr w2 w av tj nj a' bx W):b≠m:=by have:=h.hb;have:=h.hm;have:=h.hw;omega
theorem eR.step(c:eR b m a wr w2 w av tj nj a' bx W)(d:dX b W.heap.size W W'){f:Nat}(g:W'.heap[b]?=some (f4 f)):eR b m a wr w2 w av tj f a' bx W' where
 ka k hk h1 h2:=(d.block Hm h2).trans (c.ka k hk h1 h2)
 k2 k hk h1:=(d.block (by have:=c.sz;omega) (by have:=c.hb;have:=c.hm;have:=c.hw;omega)).trans (c.k2 k hk h1)
 sz:=Dr c.sz d.size
 row:=zZ c.row fun j e=>d.block (zo c.row j e).1 (by have:=(zo c.row j e).2;have:=c.hb;omega)
 own:=c.own
 ha:=c.ha
 off:=c.off.trans (d.mono c.off.size)
 st:=g
 box:=(d.block Hu c.bm.symm).trans c.box
 hb:=c.hb
 hm:=c.hm
 hm2:=c.hm2
 hw:=c.hw
 ha0:=c.ha0
theorem eR.set(c:eR b m a wr w2 w av tj nj a' bx W)(i:Nat)(e:C4){bx':Obj}(g:(W.setCell (m,i) e).heap[m]?=some bx'):eR b m a wr w2 w av tj nj a' bx' (W.setCell (m,i) e) where
 ka k hk d h2:=(Dx W ⟨m,i,none⟩ e k (by show k≠m;have:=c.hm;omega)).trans (c.ka k hk d h2)
 k2 k hk d:=(Dx W ⟨m,i,none⟩ e k (by show k≠m;omega)).trans (c.k2 k hk d)
 sz:=by have:=c.sz;simpa[World.setCell]using this
 row:=zZ c.row fun j f=>Dx W ⟨m,i,none⟩ e j (by
  show j≠m;rcases c.own with d|⟨d,_⟩
  .rw[d]at f;injection f with f;subst f;exact c.am
  .rw[d]at f;cases f)
 own:=c.own
 ha:=c.ha
 off:=c.off.trans (dX.wb (Zb.setCell (p:=(m,i)) (by show w.heap.size<=m;have:=c.hm;have:=c.hw;omega) e) (zB c.st))
 st:=(Dx W ⟨m,i,none⟩ e b c.bm).trans c.st
 box:=g
 hb:=c.hb
 hm:=c.hm
 hm2:=c.hm2
 hw:=c.hw
 ha0:=c.ha0
theorem eR.bel(c:eR b m a wr w2 w av tj nj a' bx W){B:Nat}(_:B<=b)(d:dX b w.heap.size w wr):Below B wr W:=
 ⟨Below.os c.off |>.trans (Below.os d).symm,Below.tape c.off |>.trans (Below.tape d).symm,Below.output c.off |>.trans (Below.output d).symm,Hm,fun q _=>c.ka q (by have:=c.hb;have:=c.hw;omega) (by have:=c.ha0;have:=c.hb;omega) O⟩
theorem eR.alt(c:eR b m a wr w2 w av tj nj a' bx W):a'<W.heap.size:=by
 rcases c.own with d|⟨_,d⟩
 .exact(zo c.row a' d).1
 .rw[d];exact zB c.st
theorem eR.grow(c:eR b m a wr w2 w av tj nj a' bx W){r:C3}(l:Cx W r){n:C4}{x:C2×C2}(p:r.grownBy W' av.ownBlock)(C:kn r av n)(B:W'.ownsRow w.heap.size 102 2 n (tj++[x]).length ((tj++[x]).flatMap kQ.cs)):
 ∃i,eR b m a wr w2 w n (tj++[x]) nj i bx W':=by
 have v:W.heap.size<=W'.heap.size:=Dr l.size p.size
 have q:∀k,k<W.heap.size->k≠a'\/av.ownBlock=none->W'.heap[k]?=W.heap[k]?:=fun k j A=>(p.block k (D6 j l.size) (fun e=>by
  rcases A with d|d
  .rcases c.own with o|⟨o,_⟩
   .rw[o]at e;injection e with e;exact d e
   .rw[o]at e;cases e
  .rw[d]at e;cases e)).trans (l.block k j)
 have y:m<W.heap.size:=Hu
 have t:b<W.heap.size:=zB c.st
 have z:a'=b->av.ownBlock=none:=fun e=>by
  rcases c.own with d|⟨d,_⟩
  .have:=(zo c.row a' d).2;have:=c.hb;omega
  .exact d
 have u:W'.heap[b]?=W.heap[b]?:=q b t (by
  by_cases e:a'=b
  .exact .inr (z e)
  .exact .inl (fun d=>e d.symm))
 have mk:∀i,(n.ownBlock=some i\/n.ownBlock=none/\i=b)->(i=a\/w2.heap.size<=i)->eR b m a wr w2 w n (tj++[x]) nj i bx W':=fun i d o=>{
  ka:=fun k j f s=>(q k (by have:=c.hm;omega) (.inl (fun e=>by have:=c.ha;have:=c.hm;have:=c.hm2;omega))).trans (c.ka k j f s)
  k2:=fun k j f=>(q k (by have:=c.sz;omega) (.inl (fun e=>by have:=c.ha;have:=c.ha0;have:=c.hm;have:=c.hb;have:=c.hw;omega))).trans (c.k2 k j f)
  sz:=Dr c.sz v
  row:=B
  own:=d
  ha:=o
  off:=c.off.trans (dX.mk' (p.os.trans l.os) (p.tape.trans l.tape) (p.output.trans l.output) v t fun k j u=>q k (D6 j c.off.size) (by
   by_cases e:k=a'
   .subst e
    rcases c.own with f|⟨f,_⟩
    .have:=(zo c.row k f).2;omega
    .exact .inr f
   .exact .inl e))
  st:=u.trans c.st
  box:=(q m y (.inl c.am.symm)).trans c.box
  hb:=c.hb
  hm:=c.hm
  hm2:=c.hm2
  hw:=c.hw
  ha0:=c.ha0 }
 rcases C with d|⟨g,d,o⟩
 .rcases c.own with f|⟨f,s⟩
  .exact⟨a',mk a' (.inl (d.trans f)) c.ha⟩
  .exact⟨a',mk a' (.inr ⟨d.trans f,s⟩) c.ha⟩
 .exact⟨g,mk g (.inl d) (.inr (by have:=c.sz;have:=l.size;omega))⟩
end
theorem DQ{c:Option Nat}(a:w.grownBy w' c)(d:b<w.heap.size)(_:B<=w.heap.size)(f:∀k,c=some k->B<=k):dX b B w w':=
 dX.mk' a.os a.tape a.output a.size d fun k _ _=>a.block k O (fun e=>by have:=f k e.symm;omega)
theorem eR.fin{b a a' nj E:Nat}{wr w2 w W w':C3}{l v av:C4}{n:List St}{F tj:qb}{G:C4}{e:St}{k f:Int}{s:C2}{g i j:C4}
 (c:eR b wr.heap.size a wr w2 w av tj E a' (ML k f s g i j) W) (x:KT b w l G n F nj a wr) (B:eU w.heap.size (eG a' W) l n) (H:e6 (wr.heap.size+1) (eG a' W) e (.agg #[(k:Int),(f:Int),s,g,i,j]))
 (u:(W.alloc (ML k f s g i j)).grownBy w' l.ownBlock) (J:kn (W.alloc (ML k f s g i j)) l v) (I:w'.ownsRow w.heap.size 139 6 v (n.length+1) ((k9 (Classical.choose B))++[.int .i64 k,.int .i64 f,.string s,g,i,j])):
 KT b w v av (n++[e]) tj E a' w':=by
 have m:=x.o.own;rw[qk]at m;have L:wr.heap.size<W.heap.size:=zB c.box
 have r:∀q,l.ownBlock=some q->q≠a':=fun q d=>by
  have y:=m q d;have z:=x.ne q d;have A:=c.ha;have p:=c.hm2;omega
 have t:Cx W (W.alloc (ML k f s g i j)):=Zb.alloc Zr _;have K:(W.alloc (ML k f s g i j)).heap.size=W.heap.size+1:=zA _ _;have C:b<W.heap.size:=zB c.st;have D:∀q,q<W.heap.size->l.ownBlock≠some q->w'.heap[q]?=W.heap[q]?:=fun q d r=>(u.block q O (fun e=>r e.symm)).trans (t.block q d)
 obtain⟨y,z⟩:=B.apph H (by have:=c.hw;omega) (fun q d=>by have:=(m q d).1;omega) r c.alt t u J I
 refine⟨y,z,zZ c.row fun q d=>D q (zo c.row q d).1 (fun e=>by
  have A:=r q e;rcases c.own with p|⟨p,_⟩
  .rw[p]at d;injection d with d;exact A d.symm
  .rw[p]at d;cases d),c.own,?_,(D b C (fun e=>by have:=(m b e).2;have:=c.hb;omega)).trans c.st,c.hb⟩
 exact(c.off.trans (dX.wb (t.mono c.off.size) C)).trans (DQ u O (by have:=c.off.size;have:w.heap.size<=W.heap.size:=c.off.size;omega) fun q d=>(m q d).2)
